import PyProof.Rows.All
import Wide.All
import OpenK.AllK
import Wide.FinOn
import Lean
import PyProof.EqAt
import PyProof.EqKinds
import PyProof.TupleCall
import PyProof.P3Statements
import PyProof.Dict
import PySem.Syntax
import PySem.Challenge.RW_traitorround_k51_a_king_hand
set_option Elab.async false
set_option linter.all false
set_option maxRecDepth 100000
set_option bootstrap.genMatcherCode false
namespace PySem.W.Fast
def tw6614451295116849055:=0
def tw11301672017856864478:=0
def tw3353578993819728799:=0
def tw13493186545108937779:=0
def tw13137115767286794608:=0
def tw761002115144688754:=0
def tw14856990933191073588:=0
def tw12669910924433259183:=0
def tw6383838460220878140:=0
def tw5083425510104362005:=0
def tw8102912691678488958:=0
def tw9392167664974667663:=0
def tw11139151270697105734:=0
def tw7243593041715343002:=0
def tw11566481597424989028:=0
def tw2577321435019133523:=0
def tw2655162912419796094:=0
def tw1881538727264954818:=0
def tw10370189547295469717:=0
def tw17350525711968982054:=0
def tw1750791087135955870:=0
def tw14273900251733632874:=0
def tw8104346610743404697:=0
def tw16235993403250393350:=0
def tw10386778236942792138:=0
def tw9782294158567528924:=0
def tw4110696706796181168:=0
def tw15816607799773863506:=0
def tw8243471490893126935:=0
def tw7903614594249391922:=0
def tw9819217042309955869:=0
def tw949096599416515597:=0
def tw5975163944214856367:=0
def tw8385009616197201317:=0
def tw1005663611215703227:=0
def tw12844048621875561229:=0
def tw1162878692954897554:=0
def tw936747624524759745:=0
def tw16779621448619689553:=0
def tw6803562178890898766:=0
def tw897822814497718400:=0
def tw11993427101860140975:=0
def tw14300585993668071391:=0
def tw4415400262829171148:=0
def tw17154769857550852148:=0
def tw18072613312321555472:=0
def tw8534807978198908428:=0
def tw1201036772017160018:=0
def tw1036733066546519976:=0
def tw14110630253561036231:=0
def tw8822433887127600106:=0
def tw6978359883252983327:=0
def tw13135215878965386111:=0
def tw1859848538560527364:=0
def tw7931404520994074734:=0
def tw16679651254269896663:=0
def tw2988141964919189922:=0
def tw8039259468892729690:=0
def tw8265404864140140661:=0
def tw1906556339365669103:=0
def tw17384587244850612915:=0
def tw7343601494390722528:=0
def tw11365699078180638702:=0
def tw5448548167615497970:=0
def tw4732921416324550240:=0
def tw10196099854773545363:=0
def tw13480275054343249730:=0
def tw8042881424699612417:=0
def tw16716586567168176594:=0
def tw18334680877857264541:=0
def tw7253567604707916499:=0
def tw5800328659659749716:=0
def tw13554407990054859510:=0
def tw15191561893845775127:=0
def tw11954134219080744779:=0
def tw11551680649817506481:=0
def tw912052568774499513:=0
def tw804807144662393107:=0
def tw1392885490015367457:=0
def tw17314215206552925434:=0
def tw213331954221655140:=0
def tw16166036093926916246:=0
def tw6089595637974890442:=0
def tw13170846345359781384:=0
def tw12960327510514237346:=0
def tw18226420501570281001:=0
def tw15134197830511343606:=0
def tw8308044047482053856:=0
def tw16644442642715392212:=0
def tw12222389145292463648:=0
def tw5364035144799554729:=0
def tw4017325758441280761:=0
def tw9771864920511514510:=0
def tw11670155546813208325:=0
def tw11376987440130170910:=0
def tw3151745913663873938:=0
def tw18270760090508922199:=0
def tw6976803950301752388:=0
def tw14845354263970764941:=0
def tw5765139005083381483:=0
def tw7709319551102613113:=0
def tw6848474487624560417:=0
def tw6710723608185674154:=0
def tw10326918908744327736:=0
def tw18322076972008833659:=0
def tw6391767569355279692:=0
def tw2930426257525299051:=0
def tw5431727185272050603:=0
def tw12751276208328678306:=0
def tw14663022388149482181:=0
def tw16612993071434549805:=0
def tw3043143376211782476:=0
def tw5449686378437591315:=0
def tw10397549846736992813:=0
def tw2393419514494021413:=0
def tw16807935183940596625:=0
def tw31019376789935244:=0
def tw14647688813200324368:=0
def tw15668460009808564872:=0
def tw9137919186167536433:=0
def tw9428334192112899478:=0
def tw5488210985137044466:=0
def tw16431070424209556939:=0
def tw4396178126725996387:=0
def tw5752177214022054756:=0
def tw9973386012195882251:=0
def tw2386065773372993286:=0
def tw9819604914658211576:=0
def tw13507485828531794982:=0
def tw7830492857341930672:=0
def tw16441922504055307266:=0
def tw5269400156967504991:=0
def tw4930228369870605262:=0
def tw9496167227326393235:=0
def tw11722938689493682905:=0
def tw16258228534366014160:=0
def tw3887618991633565628:=0
def tw10678633325541883131:=0
def tw10892181633317584403:=0
def tw8089750893751757134:=0
def tw10441264239605925938:=0
def tw17285484215564213171:=0
def tw9757007713183408130:=0
def tw5317866359639328203:=0
def tw1262507739138973260:=0
def tw12920367407739923790:=0
def tw2971327868377374661:=0
def tw471077314359645849:=0
def tw11472557767182065861:=0
def tw1116722742729496829:=0
def tw3547614642548302038:=0
def tw2830348822045271194:=0
def tw6278476901188133417:=0
def tw2791233813506082634:=0
def tw6295733276882920928:=0
def tw4966348112892568847:=0
def tw16505336731882825285:=0
def tw5775461926871906996:=0
def tw2375843657933737793:=0
def tw10376852349146892763:=0
def tw16115811238595931543:=0
def tw4026338500724054742:=0
def tw6584897181076780311:=0
def tw1940325641894794824:=0
def tw12249902793450126599:=0
def tw12581069058901080659:=0
def tw15806728379375281791:=0
def tw16982910096657226801:=0
def tw11698173390444617437:=0
def tw10052769592188348758:=0
def tw4030224273207009058:=0
def tw11085586130675534908:=0
def tw8171402214124823660:=0
def tw7782951623188502426:=0
def tw267630293791922410:=0
def tw12068240360344784033:=0
def tw6814722161207404559:=0
def tw10115706725430915304:=0
def tw17246085976772682574:=0
def tw18218724998232201924:=0
def tw10564908843141701773:=0
def tw16218641392802412835:=0
def tw8522905356266558547:=0
def tw12327869954249330338:=0
def tw11132232304682723210:=0
def tw12161340789901228067:=0
def tw1292320564651418328:=0
def tw8948331175716082347:=0
def tw2874783528244912819:=0
def tw17433136926002695744:=0
def tw3184831399076643935:=0
def tw9170828962463644066:=0
def tw16676342669512025467:=0
def tw7166195577979748670:=0
def tw5436595465546086789:=0
def tw14422796421374028742:=0
def tw2568953796919772229:=0
def tw3391077690164065459:=0
def tw4964425081665987714:=0
def tw16462504503619436138:=0
def tw867726812070569352:=0
def tw6750787321303163336:=0
def tw11632140837256186126:=0
def tw7284719070549387423:=0
def tw4444474343618497429:=0
def tw12153800893413836897:=0
def tw5547041672457118133:=0
def tw3113991751055690961:=0
def tw13304777924186121454:=0
def tw2201066079632691867:=0
def tw3214327595907769440:=0
def tw8155684976592550041:=0
def tw7308023773860510563:=0
def tw16357563688510780722:=0
def tw8379238641275212411:=0
def tw10242109808422318009:=0
def tw980333888304961587:=0
def tw8970662316833066367:=0
def tw2054354340075933323:=0
def tw17894004148107998305:=0
def tw9402120751335723622:=0
def tw3726002767877347488:=0
def tw52456033844503717:=0
def tw2718672671124690312:=0
def tw12498198584427414208:=0
def tw12537001047965376980:=0
def tw14496949264614064690:=0
def tw12356985724902284384:=0
def tw17959503294828069802:=0
def tw9731444879025639049:=0
def tw3052585062209726337:=0
def tw7342379401350426156:=0
def tw4221765770726665909:=0
def tw13258029295478760980:=0
def tw14196619979997559982:=0
def tw2357801641119890931:=0
def tw6984401134417837598:=0
def tw9343778624612658810:=0
def tw10623750011928115590:=0
def tw11161354261454499337:=0
def tw1831288594758824787:=0
end PySem.W.Fast
section
namespace PySem.W.Fast
end PySem.W.Fast
end
section
namespace L2
open PySem PySem.Spec PyProof.Rows
noncomputable abbrev Key:=Sum Int Str
noncomputable def keyIs:Key->Value->Bool
 |.inl k,v=>Value.isInt k v
 |.inr x,v=>Value.isStrOf x v
noncomputable def keyH (w:World):Key->Int
 |.inl k=>hashInt k
 |.inr x=>hashStr w x
theorem keyIs_shape:∀{k:Key} {v:Value},keyIs k v=true->(∃i t,k=Sum.inl i/\v=Value.int i t)\/(∃x t,k=Sum.inr x/\v=Value.str x t)
 | .inl i, v, h => by
   obtain ⟨t,e⟩:=Value.isInt_shape (k:=i) (v:=v) h
   exact .inl ⟨i,t,rfl,e⟩
 | .inr x, v, h => by
   obtain ⟨t,e⟩:=Value.isStrOf_shape (x:=x) (v:=v) h
   exact .inr ⟨x,t,rfl,e⟩
theorem keyIs_int (i:Int) (t:Tok):keyIs (.inl i) (.int i t)=true:=by simp [keyIs,Value.isInt]
theorem keyIs_str (x:Str) (t:Tok):keyIs (.inr x) (.str x t)=true:=by simp [keyIs,Value.isStrOf]
theorem key_ll (a b:Int):decide ((Sum.inl a:Key)=Sum.inl b)=(a == b):=by
 by_cases e:a=b
 · subst e;simp
 · have h:¬(Sum.inl a:Key)=Sum.inl b:=fun q=>e (Sum.inl.inj q)
   rw [decide_eq_false h]
   exact (beq_eq_false_iff_ne.mpr e).symm
theorem key_rr (a b:Str):decide ((Sum.inr a:Key)=Sum.inr b)=decide (a=b):=by
 by_cases e:a=b
 · subst e;simp
 · have h:¬(Sum.inr a:Key)=Sum.inr b:=fun q=>e (Sum.inr.inj q)
   rw [decide_eq_false h,decide_eq_false e]
theorem key_lr (a:Int) (b:Str):decide ((Sum.inl a:Key)=Sum.inr b)=false:=decide_eq_false (fun q=>nomatch q)
theorem key_rl (a:Str) (b:Int):decide ((Sum.inr a:Key)=Sum.inl b)=false:=decide_eq_false (fun q=>nomatch q)
noncomputable def mixKind (prog:Program) (w:World):PySem.KeyKind prog w Key where
 is:=keyIs
 hash:=keyH w
 inj:=fun v a b ha hb=>by
  rcases keyIs_shape ha with ⟨i,t,rfl,rfl⟩|⟨x,t,rfl,rfl⟩
  · rcases keyIs_shape hb with ⟨j,u,rfl,e⟩|⟨y,u,rfl,e⟩
    · injection e with e1 _;rw [e1]
    · exact nomatch e
  · rcases keyIs_shape hb with ⟨j,u,rfl,e⟩|⟨y,u,rfl,e⟩
    · exact nomatch e
    · injection e with e1 _;rw [e1]
 byValue:=fun k v h=>by
  rcases keyIs_shape h with ⟨i,t,rfl,rfl⟩|⟨x,t,rfl,rfl⟩<;>rfl
 pyHash:=fun hv h=>by
  rcases keyIs_shape hv with ⟨i,t,rfl,rfl⟩|⟨x,t,rfl,rfl⟩
  · exact wpAny_pyHash_int h
  · exact wpAny_pyHash_str h
 eqBool:=fun hu hv h=>by
  rcases keyIs_shape hu with ⟨i,t,rfl,rfl⟩|⟨x,t,rfl,rfl⟩
  · rcases keyIs_shape hv with ⟨j,u,rfl,rfl⟩|⟨y,u,rfl,rfl⟩
    · rw [key_ll] at h;exact wpAny_eqBool_int h
    · rw [key_lr] at h;exact SeqAt.EqAt.int_str i t y u _ _ _ _ h
  · rcases keyIs_shape hv with ⟨j,u,rfl,rfl⟩|⟨y,u,rfl,rfl⟩
    · rw [key_rl] at h;exact SeqAt.EqAt.str_int x t j u _ _ _ _ h
    · rw [key_rr] at h;exact wpAny_eqBool_str h
 «strs»:=fun k x t v h=>by
  rcases keyIs_shape h with ⟨i,u,rfl,e⟩|⟨y,u,rfl,e⟩
  · exact nomatch e
  · injection e with e1 _
    subst e1
    cases v<;>rfl
theorem mixKind_is (prog:Program) (w:World) (k:Key) (v:Value):(mixKind prog w).is k v=keyIs k v:=rfl
theorem mixKind_int (prog:Program) (w:World) (i:Int) (t:Tok):(mixKind prog w).is (.inl i) (.int i t)=true:=keyIs_int i t
theorem mixKind_str (prog:Program) (w:World) (x:Str) (t:Tok):(mixKind prog w).is (.inr x) (.str x t)=true:=keyIs_str x t
end L2
namespace L2
open PySem PySem.Spec PyProof.Rows
inductive V where
 |non|bl (b:Bool)|int (i:Int)|str (x:Str)|byt (b:Array UInt8)|flt (b:UInt64)|ref (a:Addr)|ty (n:String)
 deriving DecidableEq
noncomputable def RelV:V->Value->Prop
 |.non,u=>u=Value.none
 |.bl b,u=>u=Value.bool b
 |.int i,u=>∃t,u=Value.int i t
 |.str x,u=>∃t,u=Value.str x t
 |.byt b,u=>∃t,u=Value.bytes b t
 |.flt b,u=>∃t,u=Value.float b t
 |.ref a,u=>u=Value.ref a
 |.ty n,u=>u=Value.type n
noncomputable abbrev Vals:List V->List Value->Prop:=Paired RelV
theorem Vals.length {xs:List V} {us:List Value} (r:Vals xs us):xs.length=us.length:=Paired.length r
theorem Vals.get:∀{xs:List V} {us:List Value} {i:Nat} {x:V},Vals xs us->xs[i]?=some x->∃u,us[i]?=some u/\RelV x u
 |_,_,_,_,.nil,e=>by simp at e
 |_,_,0,_,.cons r _,e=>by simp at e;subst e;exact ⟨_,rfl,r⟩
 | _, _, i + 1, x, .cons _ t, e => by
   obtain ⟨u,h1,h2⟩:=Vals.get (i:=i) (x:=x) t (by simpa using e)
   exact ⟨u,by simpa using h1,h2⟩
theorem Vals.append:∀{xs ys:List V} {us ws:List Value},Vals xs us->Vals ys ws->Vals (xs++ys) (us++ws)
 |_,_,_,_,.nil,s=>s
 |_,_,_,_,.cons r t,s=>.cons r (Vals.append t s)
noncomputable def RelO:Option V->Option Value->Prop
 |some v,some u=>RelV v u
 |none,none=>True
 |_,_=>False
noncomputable def KV {κ:Type}:List (κ × V)->List (κ × Value)->Prop:=Paired fun (p:κ × V) (q:κ × Value)=>p.1=q.1/\RelV p.2 q.2
noncomputable def kV:Key->V
 |.inl i=>.int i
 |.inr x=>.str x
inductive HO where
 |lst (xs:List V)
 |tup (xs:List V)
 |dK (kvs:List (Key × V))|dT (kvs:List (List Key × V))
 |set (S:Int->Bool) (n:Nat)
 |ins (C dx:Addr) (fs:List (Str × V))
 |own (x:Addr)
 |xd (fs:List (Str × V))
 |met (f x:Addr)
 |rng (lo hi:Int)
 |frz (o:Obj) (u:HO)
 |tbl (ps:Array Value)
 |ext (φ:Heap->Prop)
noncomputable abbrev Hp:=Addr->Option HO
noncomputable def upd (H:Hp) (a:Addr) (o:HO):Hp:=fun b=>if b=a then some o else H b
theorem upd_same {H:Hp} {a:Addr} {o:HO}:upd H a o a=some o:=by unfold upd;rw [if_pos rfl]
theorem upd_ne {H:Hp} {a b:Addr} {o:HO} (h:b≠a):upd H a o b=H b:=by unfold upd;rw [if_neg h]
theorem upd_upd {H:Hp} {a:Addr} {o u:HO}:upd (upd H a o) a u=upd H a u:=by
 funext b;unfold upd;split<;>rfl
theorem ne_of {H:Hp} {a b:Addr} {o u:HO} (h:H a=some o) (h':H b=some u) (d:o≠u):a≠b:=by
 intro e;subst e;rw [h] at h';exact d (Option.some.inj h')
theorem ne_of_none {H:Hp} {a b:Addr} {o:HO} (h:H a=some o) (h':H b=none):a≠b:=by
 intro e;subst e;rw [h] at h';cases h'
section
variable (P:Program) (w:World)
noncomputable def ObjOk (H:Hp) (h:Heap) (a:Addr):HO->Prop
 |.lst xs=>xs.length<=sizeLine/\∃(its:List Value) (n:Nat),Vals xs its/\h.get? a=some {cls:=.type "list",data:=.seq its.toArray n}
 |.tup xs=>xs.length<=sizeLine/\∃its:List Value,Vals xs its/\IsTup h a its.toArray
 |.dK kvs=>kvs.length<=sizeLine/\(a == sysModules)=false/\∃vs,KV kvs vs/\h.DictOf (mixKind P w) a vs
 |.dT kvs=>kvs.length<=sizeLine/\(a == sysModules)=false/\∃xs:List (List Key × Addr × Value),
  Paired (fun (p:List Key × V) (q:List Key × Addr × Value)=>p.1=q.1/\H q.2.1=some (.tup (p.1.map kV))/\RelV p.2 q.2.2) kvs xs/\
  ∃o es ep,h.get? a=some o/\o.ExactDict/\o.data=.dict es ep/\es.toList=xs.map (entryOfKey (tupleKind (mixKind P w)))/\(xs.map (·.1)).Nodup
 |.set S n=>h.SetOf (intKind P w) a S n
 |.ins C dx fs=>H dx=some (.own a)/\fs.length<=1000/\dx≠a/\h.get? a=some (PySem.W.instObj C dx)/\
  ∃mA,h.Ns1 dx mA/\(∀f,RelO (fs.lookup f) (mA f))/\PySem.Within mA (fs.map (·.1))
 |.own _=>∃o,h.get? a=some o
 |.xd fs=>∃mA,h.Ns1 a mA/\∀f,RelO (fs.lookup f) (mA f)
 |.rng lo hi=>∃t u v,h.get? a=some {cls:=.type "range",data:=.fields #[.int lo t,.int hi u,.int 1 v]}
 |.frz o u=>h.get? a=some o/\ObjOk H h a u
 |.tbl ps=>h.get? a=some {cls:=.none,data:=.fields ps}
 |.met f x=>h.get? a=some (PySem.W.methodObj (.ref f) (.ref x))
 |.ext φ=>φ h/\(∃o,h.get? a=some o)/\∀h1 h2:Heap,φ h1->(∀o,h1.get? a=some o->h2.get? a=some o)->φ h2
noncomputable def HOk (H:Hp) (h:Heap):Prop:=∀a o,H a=some o->ObjOk P w H h a o
end
section
variable {P:Program} {w:World} {H H':Hp} {h h':Heap} {a:Addr} {o:HO}
theorem ObjOk.lt (x:ObjOk P w H h a o):a<h.objs.size:=by
 cases o with
 |lst xs=>obtain ⟨_,_,_,_,e⟩:=x;exact Heap.lt_size e
 |tup xs=>obtain ⟨_,_,_,p⟩:=x;exact p.lt
 |dK kvs=>obtain ⟨_,_,_,_,o,_,_,e,_⟩:=x;exact Heap.lt_size e
 |dT kvs=>obtain ⟨_,_,_,_,o,_,_,e,_⟩:=x;exact Heap.lt_size e
 |set S n=>obtain ⟨o,_,_,_,e,_⟩:=x;exact Heap.lt_size e
 |ins C dx fs=>obtain ⟨_,_,_,e,_⟩:=x;exact Heap.lt_size e
 |own y=>obtain ⟨_,e⟩:=x;exact Heap.lt_size e
 |xd fs=>obtain ⟨_,⟨_,_,_,e,_⟩,_⟩:=x;exact Heap.lt_size e
 |rng lo hi=>obtain ⟨_,_,_,e⟩:=x;exact Heap.lt_size e
 |frz ob u=>obtain ⟨e,_⟩:=x;exact Heap.lt_size e
 |tbl ps=>exact Heap.lt_size (show h.get? a=some _ from x)
 |met f y=>exact Heap.lt_size (show h.get? a=some _ from x)
 |ext φ=>obtain ⟨_,⟨_,e⟩,_⟩:=x;exact Heap.lt_size e
theorem Paired.mapP {α β:Type} {F G:α->β->Prop}:∀{l₁:List α} {l₂:List β},Paired F l₁ l₂->(∀a b,F a b->G a b)->Paired G l₁ l₂
 |_,_,.nil,_=>.nil
 |_,_,.cons r t,f=>.cons (f _ _ r) (Paired.mapP t f)
theorem ObjOk.stay (x:ObjOk P w H h a o) (k:∀b u,(b=a\/H b=some (.own a))->h.get? b=some u->h'.get? b=some u)
  (ho:∀b,H b=some (.own a)->H' b=some (.own a)) (ht:∀b xs,H b=some (.tup xs)->H' b=some (.tup xs)):ObjOk P w H' h' a o:=by
 induction o with
 |lst xs=>obtain ⟨z,its,n,r,e⟩:=x;exact ⟨z,its,n,r,k _ _ (.inl rfl) e⟩
 |tup xs=>obtain ⟨z,its,r,ob,e,c⟩:=x;exact ⟨z,its,r,ob,k _ _ (.inl rfl) e,c⟩
 |dK kvs=>obtain ⟨z,y,vs,r,ob,es,ep,e,c⟩:=x;exact ⟨z,y,vs,r,ob,es,ep,k _ _ (.inl rfl) e,c⟩
 | dT kvs =>
   obtain ⟨z,y,xs,r,ob,es,ep,e,c⟩:=x
   exact ⟨z,y,xs,Paired.mapP r fun p q z=>⟨z.1,ht _ _ z.2.1,z.2.2⟩,ob,es,ep,k _ _ (.inl rfl) e,c⟩
 |set S n=>obtain ⟨ob,es,ep,t,e,c⟩:=x;exact ⟨ob,es,ep,t,k _ _ (.inl rfl) e,c⟩
 | ins C dx fs =>
   obtain ⟨d,z,ne,e,mA,⟨od,es,ep,e2,c⟩,r⟩:=x
   exact ⟨ho _ d,z,ne,k _ _ (.inl rfl) e,mA,⟨od,es,ep,k _ _ (.inr d) e2,c⟩,r⟩
 |own y=>obtain ⟨ob,e⟩:=x;exact ⟨ob,k _ _ (.inl rfl) e⟩
 |xd fs=>obtain ⟨mA,⟨od,es,ep,e,c⟩,r⟩:=x;exact ⟨mA,⟨od,es,ep,k _ _ (.inl rfl) e,c⟩,r⟩
 |rng lo hi=>obtain ⟨t,u,v,e⟩:=x;exact ⟨t,u,v,k _ _ (.inl rfl) e⟩
 |frz ob u ih=>obtain ⟨e,q⟩:=x;exact ⟨k _ _ (.inl rfl) e,ih q⟩
 | tbl ps =>
   have e:h.get? a=some {cls:=.none,data:=.fields ps}:=x
   show h'.get? a=some {cls:=.none,data:=.fields ps}
   exact k a _ (.inl rfl) e
 | met f y =>
   have e:h.get? a=some (PySem.W.methodObj (.ref f) (.ref y)):=x
   show h'.get? a=some (PySem.W.methodObj (.ref f) (.ref y))
   exact k a _ (.inl rfl) e
 |ext φ=>obtain ⟨p,⟨o,e⟩,st⟩:=x;exact ⟨st _ _ p fun o q=>k _ _ (.inl rfl) q,⟨o,k _ _ (.inl rfl) e⟩,st⟩
theorem HOk.lt (x:HOk P w H h) (e:H a=some o):a<h.objs.size:=(x a o e).lt
theorem HOk.fresh (x:HOk P w H h) (e:h.objs.size<=a):H a=none:=by
 cases q:H a with
 |none=>rfl
 |some u=>exact absurd (Nat.lt_of_lt_of_le (x.lt q) e) (Nat.lt_irrefl _)
theorem HOk.kept (x:HOk P w H h) (k:∀b u,h.get? b=some u->h'.get? b=some u):HOk P w H h':=fun a o e=>
 (x a o e).stay (fun b u _ q=>k b u q) (fun _ q=>q) fun _ _ q=>q
theorem HOk.laid (x:HOk P w H h) (k:∀b u,h.get? b=some u->h'.get? b=some u) (hp:h.objs.size<=a) (new:ObjOk P w (upd H a o) h' a o):HOk P w (upd H a o) h':=fun b u e=>by
 have hn:=x.fresh hp
 by_cases hb:b=a
 · subst hb;rw [upd_same] at e;cases e;exact new
 · rw [upd_ne hb] at e
   exact (x b u e).stay (fun c v _ q=>k c v q) (fun c q=>by rw [upd_ne (ne_of_none q hn)];exact q) fun c xs q=>by rw [upd_ne (ne_of_none q hn)];exact q
end
noncomputable def Rd (H:Hp) (a:Addr) (u:HO):Prop:=H a=some u\/∃o,H a=some (.frz o u)
theorem Rd.ok {P:Program} {w:World} {H:Hp} {h:Heap} {a:Addr} {u:HO} (r:Rd H a u) (x:HOk P w H h):ObjOk P w H h a u:=by
 rcases r with r|⟨o,r⟩
 · exact x a u r
 · obtain ⟨_,q⟩:=x a _ r
   exact q
noncomputable def Mut:Option HO->Prop
 |some (.lst _)=>True
 |some (.dK _)=>True
 |some (.dT _)=>True
 |some (.set _ _)=>True
 |some (.ins _ _ _)=>True
 |some (.ext _)=>True
 |_=>False
section
variable {P:Program} {w:World} {H:Hp} {h h':Heap} {x e:Addr} {o':HO}
theorem HOk.write (ok:HOk P w H h) (mu:Mut (H x)) (he:e=x\/H e=some (.own x)) (k:∀b u,b≠e->h.get? b=some u->h'.get? b=some u) (heo:∃u,h'.get? e=some u)
  (new:ObjOk P w (upd H x o') h' x o'):HOk P w (upd H x o') h':=fun b u q=>by
 have nown:∀c y,H c=some (.own y)->c≠x:=fun c y r z=>by subst z;rw [r] at mu;exact mu
 have ntup:∀c xs,H c=some (.tup xs)->c≠x:=fun c xs r z=>by subst z;rw [r] at mu;exact mu
 by_cases hb:b=x
 · subst hb;rw [upd_same] at q;cases q;exact new
 · rw [upd_ne hb] at q
   by_cases hbe:b=e
   · have q':H b=some (.own x):=by
      rcases he with z|z
      · exact absurd (hbe.trans z) hb
      · rw [hbe];exact z
     rw [q] at q';cases q'
     obtain ⟨v,hv⟩:=heo
     exact ⟨v,by rw [hbe];exact hv⟩
   · refine (ok b u q).stay (fun c v hc r=>k c v ?_ r) (fun c r=>by rw [upd_ne (nown c b r)];exact r) fun c xs r=>by rw [upd_ne (ntup c xs r)];exact r
     rcases hc with rfl|hc
     · exact hbe
     · rintro rfl
       rcases he with z|z
       · exact nown c b hc z
       · rw [hc] at z;cases z;exact hb rfl
end
structure Un (fs ex:List Addr) (H H':Hp) (h h':Heap):Prop where
 keep:∀b o,h.get? b=some o->H b=none->b∉fs->b∉ex->h'.get? b=some o
 slot:∀b o,h.get? b=some o->H b=none->b∈fs->b∉ex->∃sl,h'.get? b=some {o with slots:=sl}
 free:∀b o,h.get? b=some o->H b=none->b∉ex->H' b=none
 there:∀b o,h.get? b=some o->b∉ex->∃o',h'.get? b=some o'
 tups:∀b xs,H b=some (.tup xs)->H' b=some (.tup xs)
 frzs:∀b o u,H b=some (.frz o u)->H' b=some (.frz o u)
 tbls:∀b ps,H b=some (.tbl ps)->∃more,H' b=some (.tbl (ps++more))
section
variable {fs fs' ex ex':List Addr} {H H1 H2:Hp} {h h1 h2 h':Heap} {a x e:Addr} {o:HO}
theorem Un.any (u:Un fs ex H H1 h h1) {b:Addr} {ob:Obj} (q:h.get? b=some ob) (n:H b=none) (hx:b∉ex):∃sl,h1.get? b=some {ob with slots:=sl}:=by
 by_cases hb:b∈fs
 · exact u.slot b ob q n hb hx
 · exact ⟨ob.slots,u.keep b ob q n hb hx⟩
theorem Un.kept (k:∀b u,h.get? b=some u->h'.get? b=some u):Un fs ex H H h h':=
 ⟨fun b ob q _ _ _=>k b ob q,fun b ob q _ _ _=>⟨ob.slots,k b ob q⟩,fun _ _ _ n _=>n,fun b ob q _=>⟨ob,k b ob q⟩,fun _ _ q=>q,fun _ _ _ q=>q,fun _ ps q=>⟨#[],by rw [q];simp⟩⟩
theorem Un.refl:Un fs ex H H h h:=Un.kept fun _ _ q=>q
theorem Un.laid (k:∀b u,h.get? b=some u->h'.get? b=some u) (hp:h.objs.size<=a) (hn:H a=none):Un fs ex H (upd H a o) h h' where
 keep:=fun b u q _ _ _=>k b u q
 slot:=fun b u q _ _ _=>⟨u.slots,k b u q⟩
 free:=fun b u q n _=>by rw [upd_ne (Nat.ne_of_lt (Nat.lt_of_lt_of_le (Heap.lt_size q) hp))];exact n
 there:=fun b u q _=>⟨u,k b u q⟩
 tups:=fun b xs q=>by rw [upd_ne (ne_of_none q hn)];exact q
 frzs:=fun b u xs q=>by rw [upd_ne (ne_of_none q hn)];exact q
 tbls:=fun b ps q=>⟨#[],by rw [upd_ne (ne_of_none q hn),q];simp⟩
theorem Un.write (mu:Mut (H x)) (he:e=x\/H e=some (.own x)) (k:∀b u,b≠e->h.get? b=some u->h'.get? b=some u) (heo:∃u,h'.get? e=some u):Un fs ex H (upd H x o) h h':=by
 have hx:∀b,H b=none->b≠x:=fun b n z=>by subst z;rw [n] at mu;exact mu
 have hb:∀b,H b=none->b≠e:=fun b n z=>by
  subst z
  rcases he with r|r
  · exact hx b n r
  · rw [n] at r;cases r
 have hm:∀b u,H b=some u->¬Mut (some u)->b≠x:=fun b u q nm z=>by subst z;rw [q] at mu;exact nm mu
 refine ⟨fun b u q n _ _=>k b u (hb b n) q,fun b u q n _ _=>⟨u.slots,k b u (hb b n) q⟩,fun b u q n _=>by rw [upd_ne (hx b n)];exact n,fun b u q _=>?_,
  fun b xs q=>by rw [upd_ne (hm b _ q fun z=>z)];exact q,fun b u xs q=>by rw [upd_ne (hm b _ q fun z=>z)];exact q,fun b ps q=>⟨#[],by rw [upd_ne (hm b _ q fun z=>z),q];simp⟩⟩
 by_cases hbe:b=e
 · subst hbe;exact heo
 · exact ⟨u,k b u hbe q⟩
end
noncomputable def trk (h:Heap) (H:Hp):List Addr:=(List.range h.objs.size).filter fun a=>(H a).isSome
noncomputable def hidT (h:Heap) (H:Hp):Heap:=PySem.W.hideAll h (trk h H)
theorem hidT_size (h:Heap) (H:Hp):(hidT h H).objs.size=h.objs.size:=PySem.W.hideAll_size _ _
theorem hidT_get {h:Heap} {H:Hp} {b:Addr} {o:Obj} (e:h.get? b=some o) (n:H b=none):(hidT h H).get? b=some o:=
 PySem.W.hideAll_get _ e fun hm=>by
  have q:(H b).isSome=true:=(List.mem_filter.mp hm).2
  rw [n] at q;simp at q
theorem of_hidT {h:Heap} {H:Hp} {b:Addr} {o:Obj} (e:(hidT h H).get? b=some o):h.get? b=some o/\H b=none:=by
 have e':h.get? b=some o:=PySem.W.of_hideAll (trk h H) e
 refine ⟨e',?_⟩
 cases q:H b with
 |none=>rfl
 | some x =>
   have hm:b∈trk h H:=List.mem_filter.mpr ⟨List.mem_range.mpr (Heap.lt_size e'),by simp [q]⟩
   have z:(hidT h H).get? b=none:=PySem.W.hideAll_none (trk h H) hm
   rw [z] at e;cases e
end L2
namespace L2
open PySem PySem.Spec PyProof.Rows
structure Mod (K:PySem.W.Frag) (mg:Str->Option Value) (base:Heap):Prop where
 kin:K.In base
 glob:base.Ns mainGlobals mg
 blt:∃mb,base.Ns builtinsNs mb/\∀x:Str,x≠"__name__"->mb x=bootBuiltins x
 nolimit:base.NoLimit
structure Cx where
 prog:Program
 w:World
 K:PySem.W.Frag
 mg:Str->Option Value
 base:Heap
 A:Around
 N:List Str
 s₀:Shared
 H₀:Hp
 env:Env
 outer:List Env
 stack:List Env
 ex:List Addr
 fn:Str->Bool
 calm:Bool
 pn:List (Addr × Obj)
 xe:Value->Shared->Prop
noncomputable def frs (l:List Env):List Addr:=l.filterMap (·.frame)
noncomputable abbrev Cx.fs (X:Cx):List Addr:=frs X.outer
noncomputable def Vis (sc:Scope) (x:Str):Prop:=sc.names.lookup x=some .local\/sc.names.lookup x=some .cell\/sc.names.lookup x=some .free
noncomputable def Loc (sc:Scope) (x:Str):Prop:=sc.names.lookup x=some .local\/sc.names.lookup x=some .cell
noncomputable def Look (env:Env) (h:Heap) (m:Str->Option Value) (x:Str) (u:Value):Prop:=
 (env.kindOf x=some .local/\m x=some u)\/((env.kindOf x=some .cell\/env.kindOf x=some .free)/\∃c,env.cells.lookup x=some c/\h.IsCell c (some u))
structure Cx.Ok (X:Cx):Prop where
 mod:Mod X.K X.mg X.base
 kind:X.env.scope.kind=.function
 glob:X.env.globals=mainGlobals
 blt:X.env.builtins=builtinsNs
 above:X.s₀.heap.objs.size<=X.env.locals
 inj:∀x y c,X.env.cells.lookup x=some c->X.env.cells.lookup y=some c->x=y
 has:∀x,(X.env.kindOf x=some .cell\/X.env.kindOf x=some .free)->∃c,X.env.cells.lookup x=some c
 cab:∀x c,X.fn x=true->X.env.cells.lookup x=some c->X.s₀.heap.objs.size<=c
 hd:X.calm=true->X.A.handled=none
 frames:X.A.frames=some X.stack
 stk:X.stack=X.outer\/(X.stack=X.env::X.outer/\X.env.frame=some X.env.locals)
 exf:∀b∈X.ex,b≠X.env.locals/\∀x c,X.env.cells.lookup x=some c->c≠b
 bs:∀b o,X.base.get? b=some o->X.s₀.heap.get? b=some o/\X.H₀ b=none
 bsz:X.base.objs.size<=X.s₀.heap.objs.size
 noex:∀b o,X.base.get? b=some o->b∉X.ex
 exfs:∀b∈X.ex,b∉X.fs
 funs:X.s₀.heap.FunFrames X.base X.outer
 frf:∀b∈X.fs,X.H₀ b=none
structure Inv (X:Cx) (pins:List (Addr × Obj)) (σ:List (Option V)) (H:Hp) (s:Shared):Prop where
 ok:X.Ok
 os:s.os=X.s₀.os
 bare:AllBare s.gens
 base:Un X.fs X.ex X.H₀ H X.s₀.heap s.heap
 loc:∃m,s.heap.Ns X.env.locals m/\∀(i:Nat) (x:Str) (v:V),X.N[i]?=some x->σ[i]?=some (some v)->Vis X.env.scope x->∃u,RelV v u/\Look X.env s.heap m x u
 cell:∀x c,X.env.cells.lookup x=some c->∃v,s.heap.IsCell c v
 free:H X.env.locals=none
 freeC:∀x c,X.env.cells.lookup x=some c->H c=none
 pin:∀p∈X.pn++pins,s.heap.get? p.1=some p.2/\H p.1=none/\p.1≠X.env.locals/\p.1∉X.fs/\∀v,p.2.data≠.cell v
 hok:HOk X.prog X.w H s.heap
 len:σ.length=X.N.length
section
variable {X:Cx} {pins:List (Addr × Obj)} {σ:List (Option V)} {H H':Hp} {s:Shared} {h':Heap}
theorem Cx.Ok.nofr (ok:X.Ok) {b:Addr} {o:Obj} (e:X.base.get? b=some o):b∉X.fs:=fun hb=>by
 have:=(ok.funs.mem hb).1
 rw [e] at this;cases this
theorem Inv.bs (I:Inv X pins σ H s):∀b o,X.base.get? b=some o->s.heap.get? b=some o/\H b=none:=fun b o e=>
 ⟨I.base.keep b o (I.ok.bs b o e).1 (I.ok.bs b o e).2 (I.ok.nofr e) (I.ok.noex b o e),I.base.free b o (I.ok.bs b o e).1 (I.ok.bs b o e).2 (I.ok.noex b o e)⟩
theorem Inv.bk (I:Inv X pins σ H s):∀b o,X.base.get? b=some o->s.heap.get? b=some o:=fun b o e=>(I.bs b o e).1
theorem Inv.mod (I:Inv X pins σ H s):Mod X.K X.mg X.base:=I.ok.mod
theorem Inv.kIn (I:Inv X pins σ H s):X.K.In s.heap:=I.ok.mod.kin.keeps I.bk
theorem Inv.lt (I:Inv X pins σ H s):X.env.locals<s.heap.objs.size:=let ⟨_,hn,_⟩:=I.loc;hn.lt
theorem Inv.sz (I:Inv X pins σ H s):X.s₀.heap.objs.size<=s.heap.objs.size:=Nat.le_trans I.ok.above (Nat.le_of_lt I.lt)
theorem Inv.nofs (I:Inv X pins σ H s) {a:Addr} (h:s.heap.objs.size<=a):a∉X.fs:=fun hb=>by
 obtain ⟨_,o,ho,_⟩:=I.ok.funs.mem hb
 exact absurd (Nat.lt_of_lt_of_le (Heap.lt_size ho) (Nat.le_trans I.sz h)) (Nat.lt_irrefl _)
theorem Inv.cne (I:Inv X pins σ H s):∀x c,X.env.cells.lookup x=some c->c≠X.env.locals:=fun x c e z=>by
 obtain ⟨v,o,ho,hd⟩:=I.cell x c e
 obtain ⟨m,⟨o',es,ep,ho',hd',_⟩,_⟩:=I.loc
 rw [z,ho'] at ho;cases ho;rw [hd'] at hd;cases hd
theorem Inv.funs (I:Inv X pins σ H s):s.heap.FunFrames X.base X.outer:=by
 have all:∀(l:List Env),(∀b∈frs l,b∈X.fs)->X.s₀.heap.FunFrames X.base l->s.heap.FunFrames X.base l:=by
  intro l
  induction l with
  |nil=>intro _ _;trivial
  | cons env r ih =>
    intro hs hl
    obtain ⟨hk,⟨L,o,hf,hn,ho,hd⟩,hr⟩:=hl
    have hL:L∈X.fs:=hs L (by unfold frs;rw [List.filterMap_cons,hf];exact List.mem_cons_self)
    obtain ⟨sl,e⟩:=I.base.slot L o ho (I.ok.frf L hL) hL fun z=>I.ok.exfs L z hL
    exact ⟨hk,⟨L,_,hf,hn,e,hd⟩,ih (fun b hb=>hs b (by unfold frs;rw [List.filterMap_cons,hf];exact List.mem_cons_of_mem _ hb)) hr⟩
 exact all X.outer (fun _ hb=>hb) I.ok.funs
theorem Inv.stack (I:Inv X pins σ H s):s.heap.FunFrames X.base X.stack:=by
 rcases I.ok.stk with e|⟨e,hf⟩
 · rw [e];exact I.funs
 · rw [e]
   obtain ⟨m,hn,_⟩:=I.loc
   refine .cons (by rw [I.ok.kind];decide) hf hn ?_ I.funs
   exact Heap.get?_none_of_le (Nat.le_trans I.ok.bsz I.ok.above)
theorem Inv.stkSub (I:Inv X pins σ H s):∀b∈frs X.stack,b∈X.env.locals::X.fs:=fun b hb=>by
 rcases I.ok.stk with e|⟨e,hf⟩
 · rw [e] at hb;exact List.mem_cons_of_mem _ hb
 · rw [e] at hb
   unfold frs at hb
   rw [List.filterMap_cons,hf] at hb
   exact hb
theorem Inv.stkFree (I:Inv X pins σ H s):∀b∈frs X.stack,H b=none:=fun b hb=>by
 rcases List.mem_cons.mp (I.stkSub b hb) with e|hb
 · rw [e];exact I.free
 · obtain ⟨_,o,ho,_⟩:=I.ok.funs.mem hb
   exact I.base.free b o ho (I.ok.frf b hb) fun z=>I.ok.exfs b z hb
theorem Inv.step {g':Array GenState} {t':Nat} {d':Drawn} {ch:List Addr} (I:Inv X pins σ H s)
  (hch:∀b∈ch,(b∈X.ex\/X.s₀.heap.objs.size<=b)/\b≠X.env.locals/\(∀x c,X.env.cells.lookup x=some c->c≠b)/\∀p∈X.pn++pins,p.1≠b)
  (keep:∀b o,b≠X.env.locals->b∉X.fs->b∉ch->s.heap.get? b=some o->H b=none->h'.get? b=some o)
  (slot:∀b o,b≠X.env.locals->b∈X.fs->b∉ch->s.heap.get? b=some o->H b=none->∃sl,h'.get? b=some {o with slots:=sl}) (free:∀b o,b∉ch->s.heap.get? b=some o->H b=none->H' b=none)
  (there:∀b o,b∉ch->s.heap.get? b=some o->∃o',h'.get? b=some o')
  (tups:∀b xs,H b=some (.tup xs)->H' b=some (.tup xs)) (frzs:∀b o u,H b=some (.frz o u)->H' b=some (.frz o u)) (tbls:∀b ps,H b=some (.tbl ps)->∃more,H' b=some (.tbl (ps++more)))
  (ns:∀m,s.heap.Ns X.env.locals m->h'.Ns X.env.locals m) (hok:HOk X.prog X.w H' h') (hg:AllBare g') :
  Inv X pins σ H' {s with heap:=h',gens:=g',drawn:=d',toks:=t'}:=by
 have neL:∀b o,X.s₀.heap.get? b=some o->b≠X.env.locals:=fun b o e=>Nat.ne_of_lt (Nat.lt_of_lt_of_le (Heap.lt_size e) I.ok.above)
 have neC:∀b o,X.s₀.heap.get? b=some o->b∉X.ex->b∉ch:=fun b o e hx hb=>by
  rcases (hch b hb).1 with z|z
  · exact hx z
  · exact absurd (Nat.lt_of_lt_of_le (Heap.lt_size e) z) (Nat.lt_irrefl _)
 have cellK:∀x c,X.env.cells.lookup x=some c->∀v,s.heap.IsCell c v->h'.IsCell c v:=fun x c e v ⟨o,ho,hd⟩=>by
  have nch:c∉ch:=fun z=>(hch c z).2.2.1 x c e rfl
  by_cases hc:c∈X.fs
  · obtain ⟨sl,q⟩:=slot c o (I.cne x c e) hc nch ho (I.freeC x c e)
    exact ⟨_,q,hd⟩
  · exact ⟨o,keep c o (I.cne x c e) hc nch ho (I.freeC x c e),hd⟩
 refine ⟨I.ok,I.os,hg,⟨fun b o e n hb hx=>?_,fun b o e n hb hx=>?_,fun b o e n hx=>?_,fun b o e hx=>?_,fun b xs e=>tups b xs (I.base.tups b xs e),fun b o xs e=>frzs b o xs (I.base.frzs b o xs e),fun b ps e=>?_⟩,?_,fun x c e=>?_,?_,fun x c e=>?_,fun p hp=>?_,hok,I.len⟩
 · exact keep b o (neL b o e) hb (neC b o e hx) (I.base.keep b o e n hb hx) (I.base.free b o e n hx)
 · obtain ⟨sl,e1⟩:=I.base.slot b o e n hb hx
   obtain ⟨sl',e2⟩:=slot b _ (neL b o e) hb (neC b o e hx) e1 (I.base.free b o e n hx)
   exact ⟨sl',e2⟩
 · obtain ⟨o',e1⟩:=I.base.there b o e hx
   exact free b o' (neC b o e hx) e1 (I.base.free b o e n hx)
 · obtain ⟨o',e1⟩:=I.base.there b o e hx
   exact there b o' (neC b o e hx) e1
 · obtain ⟨m1,e1⟩:=I.base.tbls b ps e
   obtain ⟨m2,e2⟩:=tbls b _ e1
   exact ⟨m1++m2,by rw [e2,Array.append_assoc]⟩
 · obtain ⟨m,hn,hl⟩:=I.loc
   refine ⟨m,ns m hn,fun i x v e1 e2 e3=>?_⟩
   obtain ⟨u,r,l⟩:=hl i x v e1 e2 e3
   refine ⟨u,r,?_⟩
   rcases l with l|⟨k,c,e,z⟩
   · exact .inl l
   · exact .inr ⟨k,c,e,cellK x c e _ z⟩
 · obtain ⟨v,z⟩:=I.cell x c e
   exact ⟨v,cellK x c e v z⟩
 · obtain ⟨m,⟨o,_,_,ho,_⟩,_⟩:=I.loc
   exact free _ o (fun z=>(hch _ z).2.1 rfl) ho I.free
 · obtain ⟨v,o,ho,hd⟩:=I.cell x c e
   exact free c o (fun z=>(hch c z).2.2.1 x c e rfl) ho (I.freeC x c e)
 · obtain ⟨e,n,ne,nf,d⟩:=I.pin p hp
   have nch:p.1∉ch:=fun z=>(hch p.1 z).2.2.2 p hp rfl
   exact ⟨keep p.1 p.2 ne nf nch e n,free p.1 p.2 nch e n,ne,nf,d⟩
theorem Inv.un {t':Nat} (I:Inv X pins σ H s) (u:Un X.fs [] H H' s.heap h') (hok:HOk X.prog X.w H' h'):Inv X pins σ H' {s with heap:=h',toks:=t'}:=by
 obtain ⟨m,⟨o,es,ep,ho,r⟩,_⟩:=id I.loc
 obtain ⟨sl,hL⟩:=u.any ho I.free (by simp)
 exact I.step (g':=s.gens) (d':=s.drawn) (ch:=[]) (fun _ z=>nomatch z) (fun b o _ hb _ e n=>u.keep b o e n hb (by simp)) (fun b o _ hb _ e n=>u.slot b o e n hb (by simp)) (fun b o _ e n=>u.free b o e n (by simp)) (fun b o _ e=>u.there b o e (by simp)) u.tups u.frzs u.tbls (fun m' hm=>by
  obtain ⟨o',es',ep',ho',r'⟩:=hm
  rw [ho] at ho';cases ho'
  exact ⟨_,es',ep',hL,r'⟩) hok I.bare
theorem Inv.call {g':Array GenState} {t':Nat} {d':Drawn} {ch:List Addr} (I:Inv X pins σ H s) (u:Un (frs X.stack) ch H H' s.heap h') (hok:HOk X.prog X.w H' h') (hg:AllBare g')
  (hch:∀b∈ch,(b∈X.ex\/X.s₀.heap.objs.size<=b)/\b≠X.env.locals/\(∀x c,X.env.cells.lookup x=some c->c≠b)/\∀p∈X.pn++pins,p.1≠b) :
  Inv X pins σ H' {s with heap:=h',gens:=g',drawn:=d',toks:=t'}:=by
 obtain ⟨m,⟨o,es,ep,ho,r⟩,_⟩:=id I.loc
 obtain ⟨sl,hL⟩:=u.any ho I.free fun z=>(hch _ z).2.1 rfl
 exact I.step (ch:=ch) hch (fun b o hL hb hc e n=>u.keep b o e n (fun z=>(List.mem_cons.mp (I.stkSub b z)).elim hL hb) hc) (fun b o _ _ hc e n=>u.any e n hc) (fun b o hc e n=>u.free b o e n hc) (fun b o hc e=>u.there b o e hc) u.tups u.frzs u.tbls (fun m' hm=>by
  obtain ⟨o',es',ep',ho',r'⟩:=hm
  rw [ho] at ho';cases ho'
  exact ⟨_,es',ep',hL,r'⟩) hok hg
theorem Inv.turned {t':Nat} {it:Addr} (I:Inv X pins σ H s) (k:∀b o,b≠it->s.heap.get? b=some o->h'.get? b=some o) (hn:H it=none) (hL:it≠X.env.locals)
  (h1:it∈X.ex\/X.s₀.heap.objs.size<=it) (h2:∀x c,X.env.cells.lookup x=some c->c≠it) (h3:∀p∈X.pn++pins,p.1≠it):Inv X pins σ H {s with heap:=h',toks:=t'}:=by
 have nit:∀b u,H b=some u->b≠it:=fun b u e z=>by rw [z,hn] at e;cases e
 refine I.step (g':=s.gens) (d':=s.drawn) (ch:=[it]) (fun b hb=>?_) (fun b o _ _ hc e _=>k b o (fun z=>hc (by simp [z])) e) (fun b o _ _ hc e _=>⟨o.slots,k b o (fun z=>hc (by simp [z])) e⟩) (fun _ _ _ _ n=>n)
  (fun b o hc e=>⟨o,k b o (fun z=>hc (by simp [z])) e⟩) (fun _ _ e=>e) (fun _ _ _ e=>e) (fun b ps e=>⟨#[],by rw [e];simp⟩) (fun m hm=>?_) (fun b u e=>?_) I.bare
 · have e:b=it:=by simpa using hb
   subst e
   exact ⟨h1,hL,h2,h3⟩
 · obtain ⟨o,es,ep,ho,r⟩:=hm
   exact ⟨o,es,ep,k _ o (Ne.symm hL) ho,r⟩
 · refine (I.hok b u e).stay (fun c v hc q=>k c v ?_ q) (fun _ q=>q) fun _ _ q=>q
   rcases hc with z|z
   · rw [z];exact nit b u e
   · exact nit c _ z
theorem Inv.tok (I:Inv X pins σ H s) (t:Nat):Inv X pins σ H {s with toks:=t}:=I.un (h':=s.heap) (t':=t) Un.refl I.hok
theorem Inv.kept {t':Nat} (I:Inv X pins σ H s) (k:∀b u,s.heap.get? b=some u->h'.get? b=some u):Inv X pins σ H {s with heap:=h',toks:=t'}:=I.un (Un.kept k) (I.hok.kept k)
theorem Inv.laid {a:Addr} {o:HO} {t':Nat} (I:Inv X pins σ H s) (k:∀b u,s.heap.get? b=some u->h'.get? b=some u) (hp:s.heap.objs.size<=a) (new:ObjOk X.prog X.w (upd H a o) h' a o) :
 Inv X pins σ (upd H a o) {s with heap:=h',toks:=t'}:=I.un (Un.laid k hp (I.hok.fresh hp)) (I.hok.laid k hp new)
theorem Inv.write {x e:Addr} {o:HO} {t':Nat} (I:Inv X pins σ H s) (mu:Mut (H x)) (he:e=x\/H e=some (.own x)) (k:∀b u,b≠e->s.heap.get? b=some u->h'.get? b=some u) (heo:∃u,h'.get? e=some u)
 (new:ObjOk X.prog X.w (upd H x o) h' x o):Inv X pins σ (upd H x o) {s with heap:=h',toks:=t'}:=I.un (Un.write mu he k heo) (I.hok.write mu he k heo new)
theorem Inv.pins_of {pins':List (Addr × Obj)} (I:Inv X pins σ H s) (h:∀p∈pins',s.heap.get? p.1=some p.2/\H p.1=none/\p.1≠X.env.locals/\p.1∉X.fs/\∀v,p.2.data≠.cell v):Inv X pins' σ H s:=
 ⟨I.ok,I.os,I.bare,I.base,I.loc,I.cell,I.free,I.freeC,fun p hp=>(List.mem_append.mp hp).elim (fun z=>I.pin p (List.mem_append_left _ z)) (h p),I.hok,I.len⟩
theorem nodup_ix {N:List Str} (hN:N.Nodup) {i j:Nat} {x:Str} (a:N[i]?=some x) (b:N[j]?=some x):i=j:=by
 obtain ⟨h1,e1⟩:=List.getElem?_eq_some_iff.mp a
 obtain ⟨h2,e2⟩:=List.getElem?_eq_some_iff.mp b
 exact (List.getElem_inj hN).mp (e1.trans e2.symm)
theorem store_ok2 {M:Model} {A:Around} {E:Value->Shared->Prop} {i:Nat} {x:Str} {v:V} {u:Value} {Q:Unit->Shared->Prop} (I:Inv X pins σ H s) (hN:X.N.Nodup) (hi:X.N[i]?=some x) (hx:Loc X.env.scope x) (r:RelV v u)
  (h:∀s',Inv X pins (σ.set i (some v)) H s'->(∃a,Heap.SameBut a s.heap s'.heap/\(a=X.env.locals\/X.env.cells.lookup x=some a))->Q () s') (hf:X.fn x=true\/X.env.scope.names.lookup x=some .local:=by first|exact .inl rfl|exact .inr rfl|assumption):wpAny M A (storeName X.env x u) Q E s:=by
 obtain ⟨m,hn,hl⟩:=id I.loc
 have hcls:(X.env.scope.kind == .class || (X.env.scope.kind == .module&&X.env.locals != X.env.globals))=false:=by rw [I.ok.kind];rfl
 have hiσ:i<σ.length:=by rw [I.len];exact (List.getElem?_eq_some_iff.mp hi).1
 have cne:=I.cne
 have tracked:∀{a:Addr} {h':Heap},(∃o,s.heap.get? a=some o/\H a=none)->Heap.SameBut a s.heap h'->HOk X.prog X.w H h':=fun {a h'} ha hs b ob e=>by
  obtain ⟨_,_,hfree⟩:=ha
  refine (I.hok b ob e).stay (fun c w' hc q=>(hs.2 c ?_).trans q) (fun _ q=>q) fun _ _ q=>q
  rintro rfl
  rcases hc with rfl|hc
  · rw [hfree] at e;cases e
  · rw [hfree] at hc;cases hc
 rcases hx with hk|hk
 · refine wpAny_storeName_local hk hn (fun h' hn' hs=>?_) hcls
   obtain ⟨oL,_,_,hoL,_⟩:=id hn
   refine h _ ⟨I.ok,I.os,I.bare,⟨fun b o e n hb hx=>?_,fun b o e n hb hx=>?_,I.base.free,fun b o e hx=>?_,I.base.tups,I.base.frzs,I.base.tbls⟩,⟨_,hn',fun j y v' e1 e2 e3=>?_⟩,fun y c e=>?_,I.free,I.freeC,fun p hp=>?_,tracked ⟨oL,hoL,I.free⟩ hs,by simpa using I.len⟩ ⟨_,hs,.inl rfl⟩
   · exact (hs.2 b (Nat.ne_of_lt (Nat.lt_of_lt_of_le (Heap.lt_size e) I.ok.above))).trans (I.base.keep b o e n hb hx)
   · obtain ⟨sl,e1⟩:=I.base.slot b o e n hb hx
     exact ⟨sl,(hs.2 b (Nat.ne_of_lt (Nat.lt_of_lt_of_le (Heap.lt_size e) I.ok.above))).trans e1⟩
   · obtain ⟨o',e1⟩:=I.base.there b o e hx
     exact ⟨o',(hs.2 b (Nat.ne_of_lt (Nat.lt_of_lt_of_le (Heap.lt_size e) I.ok.above))).trans e1⟩
   · by_cases hj:j=i
     · subst hj
       rw [hi] at e1;cases e1
       rw [List.getElem?_set_self hiσ] at e2
       cases e2
       exact ⟨u,r,.inl ⟨hk,by simp⟩⟩
     · rw [List.getElem?_set_ne (Ne.symm hj)] at e2
       obtain ⟨u',r',q⟩:=hl j y v' e1 e2 e3
       refine ⟨u',r',?_⟩
       rcases q with ⟨k,e⟩|⟨k,c,e,z⟩
       · refine .inl ⟨k,?_⟩
         have:y≠x:=fun e=>hj (nodup_ix hN e1 (e▸hi))
         simp [this,e]
       · exact .inr ⟨k,c,e,z.sameBut hs (cne y c e)⟩
   · obtain ⟨w',z⟩:=I.cell y c e
     exact ⟨w',z.sameBut hs (cne y c e)⟩
   · obtain ⟨e,n,ne,nf,d⟩:=I.pin p hp
     exact ⟨(hs.2 p.1 ne).trans e,n,ne,nf,d⟩
 · have hfn:X.fn x=true:=by
    rcases hf with z|z
    · exact z
    · rw [z] at hk;cases hk
   obtain ⟨c,hc⟩:=I.ok.has x (.inl hk)
   obtain ⟨w',z⟩:=I.cell x c hc
   refine wpAny_storeName_cell I.ok.kind hk hc z (fun h' hc' hs=>?_)
   obtain ⟨oc,hoc,hocd⟩:=id z
   refine h {s with heap:=h'} ⟨I.ok,I.os,I.bare,⟨fun b o e n hb hx=>?_,fun b o e n hb hx=>?_,I.base.free,fun b o e hx=>?_,I.base.tups,I.base.frzs,I.base.tbls⟩,⟨m,hn.sameBut hs (Ne.symm (cne x c hc)),fun j y v' e1 e2 e3=>?_⟩,fun y c' e=>?_,I.free,I.freeC,fun p hp=>?_,tracked ⟨oc,hoc,I.freeC x c hc⟩ hs,by simpa using I.len⟩ ⟨c,hs,.inr hc⟩
   · exact (hs.2 b (Nat.ne_of_lt (Nat.lt_of_lt_of_le (Heap.lt_size e) (I.ok.cab x c hfn hc)))).trans (I.base.keep b o e n hb hx)
   · obtain ⟨sl,e1⟩:=I.base.slot b o e n hb hx
     exact ⟨sl,(hs.2 b (Nat.ne_of_lt (Nat.lt_of_lt_of_le (Heap.lt_size e) (I.ok.cab x c hfn hc)))).trans e1⟩
   · obtain ⟨o',e1⟩:=I.base.there b o e hx
     exact ⟨o',(hs.2 b (Nat.ne_of_lt (Nat.lt_of_lt_of_le (Heap.lt_size e) (I.ok.cab x c hfn hc)))).trans e1⟩
   · by_cases hj:j=i
     · subst hj
       rw [hi] at e1;cases e1
       rw [List.getElem?_set_self hiσ] at e2
       cases e2
       exact ⟨u,r,.inr ⟨.inl hk,c,hc,hc'⟩⟩
     · rw [List.getElem?_set_ne (Ne.symm hj)] at e2
       obtain ⟨u',r',q⟩:=hl j y v' e1 e2 e3
       refine ⟨u',r',?_⟩
       rcases q with q|⟨k,c',e,z'⟩
       · exact .inl q
       · refine .inr ⟨k,c',e,z'.sameBut hs ?_⟩
         rintro rfl
         exact hj (nodup_ix hN e1 (I.ok.inj _ _ _ e hc▸hi))
   · by_cases hcc:c'=c
     · subst hcc;exact ⟨_,hc'⟩
     · obtain ⟨w2,z2⟩:=I.cell y c' e
       exact ⟨w2,z2.sameBut hs hcc⟩
   · obtain ⟨e,n,ne,nf,d⟩:=I.pin p hp
     refine ⟨(hs.2 p.1 ?_).trans e,n,ne,nf,d⟩
     intro q
     rw [q,hoc] at e
     have q':oc=p.2:=Option.some.inj e
     exact d w' (by rw [<-q'];exact hocd)
theorem store_ok {M:Model} {A:Around} {E:Value->Shared->Prop} {i:Nat} {x:Str} {v:V} {u:Value} {Q:Unit->Shared->Prop} (I:Inv X pins σ H s) (hN:X.N.Nodup) (hi:X.N[i]?=some x) (hx:Loc X.env.scope x) (r:RelV v u)
  (h:∀s',Inv X pins (σ.set i (some v)) H s'->Q () s') (hf:X.fn x=true\/X.env.scope.names.lookup x=some .local:=by first|exact .inl rfl|exact .inr rfl|assumption):wpAny M A (storeName X.env x u) Q E s:=
 store_ok2 I hN hi hx r (fun s' I' _=>h s' I') hf
theorem Inv.call' {s':Shared} {ch:List Addr} (I:Inv X pins σ H s) (ho:s'.os=s.os) (u:Un (frs X.stack) ch H H' s.heap s'.heap) (hok:HOk X.prog X.w H' s'.heap) (hg:AllBare s'.gens)
  (hch:∀b∈ch,(b∈X.ex\/X.s₀.heap.objs.size<=b)/\b≠X.env.locals/\(∀x c,X.env.cells.lookup x=some c->c≠b)/\∀p∈X.pn++pins,p.1≠b):Inv X pins σ H' s':=by
 obtain ⟨h',g',d',t',o'⟩:=s'
 have e:o'=s.os:=ho
 subst e
 exact I.call (g':=g') (t':=t') (d':=d') u hok hg hch
end
noncomputable abbrev XK:=Value->Option Addr->Hp->Prop
noncomputable abbrev St:=List (Option V)
noncomputable abbrev VK:=V->Hp->Prop
noncomputable abbrev TE:=St->Hp->VK->Prop
noncomputable abbrev TT:=St->Hp->(Bool->Hp->Prop)->Prop
noncomputable abbrev TA:=St->Hp->(List V->Hp->Prop)->Prop
structure Ends where
 nx:St->Hp->Prop
 rt:VK
 bk:St->Hp->Prop:=fun _ _=>False
 ct:St->Hp->Prop:=fun _ _=>False
noncomputable abbrev TS:=Ends->St->Hp->Prop
noncomputable def EP (X:Cx) (pins:List (Addr × Obj)) (σ:St) (Q:VK) (u:Value) (s':Shared):Prop:=∃v H',Inv X pins σ H' s'/\RelV v u/\Q v H'
noncomputable def TP (X:Cx) (pins:List (Addr × Obj)) (σ:St) (Q:Bool->Hp->Prop) (b:Bool) (s':Shared):Prop:=∃H',Inv X pins σ H' s'/\Q b H'
noncomputable def AP (X:Cx) (pins:List (Addr × Obj)) (σ:St) (Q:List V->Hp->Prop) (us:List Value) (s':Shared):Prop:=∃vs H',Inv X pins σ H' s'/\Vals vs us/\Q vs H'
noncomputable def SP (X:Cx) (pins:List (Addr × Obj)) (D:Ends) (f:Flow) (s':Shared):Prop:=
 match f with
 |.next=>∃σ' H',Inv X pins σ' H' s'/\D.nx σ' H'
 |.brk=>∃σ' H',Inv X pins σ' H' s'/\D.bk σ' H'
 |.cont=>∃σ' H',Inv X pins σ' H' s'/\D.ct σ' H'
 |.ret u=>∃v σ' H',Inv X pins σ' H' s'/\RelV v u/\D.rt v H'
noncomputable def PE (X:Cx) (e:Expr) (t:TE):Prop:=
 ∀(pins:List (Addr × Obj)) (s:Shared) (σ:St) (H:Hp) (Q:VK),Inv X pins σ H s->t σ H Q->wpAny (model X.prog X.w) X.A (eval e X.env) (EP X pins σ Q) X.xe s
noncomputable def PT (X:Cx) (e:Expr) (t:TT):Prop:=
 ∀(pins:List (Addr × Obj)) (s:Shared) (σ:St) (H:Hp) (Q:Bool->Hp->Prop),Inv X pins σ H s->t σ H Q->wpAny (model X.prog X.w) X.A (isTrue e X.env (eval e X.env)) (TP X pins σ Q) X.xe s
noncomputable def PW (X:Cx) (e:Expr) (t:TT):Prop:=
 ∀(whole:Sem Value) (pins:List (Addr × Obj)) (s:Shared) (σ:St) (H:Hp) (Q:Bool->Hp->Prop),Inv X pins σ H s->t σ H Q->wpAny (model X.prog X.w) X.A (isTrue e X.env whole) (TP X pins σ Q) X.xe s
theorem PW.pt {X:Cx} {e:Expr} {t:TT} (h:PW X e t):PT X e t:=h _
noncomputable def PA (X:Cx) (es:List Expr) (t:TA):Prop:=
 ∀(pos:Pos) (pins:List (Addr × Obj)) (s:Shared) (σ:St) (H:Hp) (Q:List V->Hp->Prop),Inv X pins σ H s->t σ H Q->wpAny (model X.prog X.w) X.A (spliced (backTo pos (starEach es X.env))) (AP X pins σ Q) X.xe s
noncomputable def PS (X:Cx) (st:Stmt) (t:TS):Prop:=
 ∀(pins:List (Addr × Obj)) (s:Shared) (σ:St) (H:Hp) (D:Ends),Inv X pins σ H s->t D σ H->wpAny (model X.prog X.w) X.A (exec st X.env) (SP X pins D) X.xe s
noncomputable def PSs (X:Cx) (st:List Stmt) (t:TS):Prop:=
 ∀(pins:List (Addr × Obj)) (s:Shared) (σ:St) (H:Hp) (D:Ends),Inv X pins σ H s->t D σ H->wpAny (model X.prog X.w) X.A (execs st X.env) (SP X pins D) X.xe s
theorem thn {α:Type} {t:Sem α} {Q Q':α->Shared->Prop} {M:Model} {A:Around} {E:Value->Shared->Prop} {s:Shared} (h:wpAny M A t Q E s) (hQ:∀a s,Q a s->Q' a s):wpAny M A t Q' E s:=wpAny_mono h hQ fun _ _ x=>x
end L2
namespace L2
open PySem PySem.Spec PyProof.Rows
section
variable {X:Cx}
theorem bin {a b:Expr} {ta tb:TE} (ha:PE X a ta) (hb:PE X b tb) {pins:List (Addr × Obj)} {s:Shared} {σ:St} {H:Hp} {R:V->V->Hp->Prop} (I:Inv X pins σ H s) (h:ta σ H fun x H1=>tb σ H1 fun y H2=>R x y H2)
  {α:Type} {Q:α->Shared->Prop} {f:Value->Value->Sem α}
  (hf:∀v u s2 x y H2,Inv X pins σ H2 s2->RelV x v->RelV y u->R x y H2->wpAny (model X.prog X.w) X.A (f v u) Q X.xe s2) :
  wpAny (model X.prog X.w) X.A (eval a X.env) (fun v s₁=>wpAny (model X.prog X.w) X.A (eval b X.env) (fun u s₂=>wpAny (model X.prog X.w) X.A (f v u) Q X.xe s₂) X.xe s₁) X.xe s:=by
 refine thn (ha pins s σ H _ I h) fun v s1 ⟨x,H1,I1,r1,q1⟩=>?_
 refine thn (hb pins s1 σ H1 _ I1 q1) fun u s2 ⟨y,H2,I2,r2,q2⟩=>?_
 exact hf v u s2 x y H2 I2 r1 r2 q2
noncomputable def tVar (i:Nat):TE:=fun σ H Q=>∃v,σ[i]?=some (some v)/\Q v H
noncomputable def tC (v:V):TE:=fun _ H Q=>Q v H
theorem pe_var {i:Nat} {x:Str} {pos:Pos} (hN:X.N[i]?=some x) (hv:Vis X.env.scope x) (hd:(x == ("__debug__":Str))=false:=by decide) (hcd:(x == ("__classdict__":Str))=false:=by decide):PE X (.Name x pos) (tVar i):=by
 intro pins s σ H Q I h
 obtain ⟨v,e,h⟩:=h
 obtain ⟨m,hn,hl⟩:=I.loc
 obtain ⟨u,r,l⟩:=hl i x v hN e hv
 have fin:EP X pins σ Q u s:=⟨v,H,I,r,h⟩
 rcases l with ⟨hk,hm⟩|⟨hk,c,hc,hcell⟩
 · exact wpAny_Name (wpAny_loadName_local I.ok.kind hk hn hm fin) hd
 · rcases hk with hk|hk
   · exact wpAny_Name (wpAny_loadName_cell I.ok.kind hk hc hcell fin) hd
   · exact wpAny_Name (wpAny_loadName_free I.ok.kind hk hc hcell fin hcd) hd
theorem pe_int {i j pos}:PE X (.Constant (.int i) j pos) (tC (.int i)):=fun _ _ _ H _ I h=>wpAny_Constant_int ⟨.int i,H,I.tok _,⟨_,rfl⟩,h⟩
theorem pe_bl {b j pos}:PE X (.Constant (.bool b) j pos) (tC (.bl b)):=fun _ _ _ H _ I h=>Constant_bool ⟨.bl b,H,I,rfl,h⟩
theorem pe_non {j pos}:PE X (.Constant .none j pos) (tC .non):=fun _ _ _ H _ I h=>Constant_none ⟨.non,H,I,rfl,h⟩
theorem pe_str {x j pos}:PE X (.Constant (.str x) j pos) (tC (.str x)):=fun _ _ _ H _ I h=>Calls.Constant_str ⟨.str x,H,I.tok _,⟨_,rfl⟩,h⟩
noncomputable def Gl (X:Cx) (x:Str):Prop:=X.env.kindOf x=some .globalImplicit
theorem ld_glob {E:Value->Shared->Prop} {pins:List (Addr × Obj)} {s:Shared} {σ:St} {H:Hp} {x:Str} {u:Value} {pos:Pos} {Q:Value->Shared->Prop} (I:Inv X pins σ H s) (hg:Gl X x) (hm:X.mg x=some u) (h:Q u s)
  (hd:(x == ("__debug__":Str))=false:=by decide):wpAny (model X.prog X.w) X.A (eval (.Name x pos) X.env) Q E s:=
 Calls.Name_function_global I.ok.kind hg (Calls.loadGlobal_global (by rw [I.ok.glob];exact I.mod.glob.keeps I.bk) hm h) hd
theorem ld_blt {E:Value->Shared->Prop} {pins:List (Addr × Obj)} {s:Shared} {σ:St} {H:Hp} {x:Str} {u:Value} {pos:Pos} {Q:Value->Shared->Prop} (I:Inv X pins σ H s) (hg:Gl X x) (hm:X.mg x=none) (hv:bootBuiltins x=some u) (h:Q u s)
  (hn:x≠"__name__":=by decide) (hd:(x == ("__debug__":Str))=false:=by decide):wpAny (model X.prog X.w) X.A (eval (.Name x pos) X.env) Q E s:=by
 obtain ⟨mb,h1,h2⟩:=I.mod.blt
 exact Calls.Name_function_global I.ok.kind hg (Calls.loadGlobal_builtin (by rw [I.ok.glob];exact I.mod.glob.keeps I.bk) hm (by rw [I.ok.blt];exact h1.keeps I.bk) ((h2 x hn).trans hv) h) hd
theorem pe_glob {x:Str} {v:V} {u:Value} {pos:Pos} (hg:Gl X x) (hm:X.mg x=some u) (r:RelV v u) (hd:(x == ("__debug__":Str))=false:=by decide):PE X (.Name x pos) (tC v):=
 fun _ _ _ H _ I h=>ld_glob I hg hm ⟨v,H,I,r,h⟩ hd
theorem pe_bltn {x:Str} {v:V} {u:Value} {pos:Pos} (hg:Gl X x) (hm:X.mg x=none) (hv:bootBuiltins x=some u) (r:RelV v u) (hn:x≠"__name__":=by decide) (hd:(x == ("__debug__":Str))=false:=by decide):PE X (.Name x pos) (tC v):=
 fun _ _ _ H _ I h=>ld_blt I hg hm hv ⟨v,H,I,r,h⟩ hn hd
variable {a b:Expr} {ta tb:TE} {pos:Pos}
theorem RelV.none_iff {x:V} {v:Value} (r:RelV x v):(v == Value.none)=decide (x=.non):=by
 cases x with
 |non=>cases r;rfl
 |bl _=>cases r;rfl
 |int _=>obtain ⟨t,rfl⟩:=r;rfl
 |str _=>obtain ⟨t,rfl⟩:=r;rfl
 |byt _=>obtain ⟨t,rfl⟩:=r;rfl
 |flt _=>obtain ⟨t,rfl⟩:=r;rfl
 |ref _=>cases r;rfl
 |ty _=>cases r;rfl
variable {tA tB':TT} {rest:List Expr}
noncomputable def tAnd (t u:TT):TT:=fun σ H Q=>t σ H fun c H1=>if c=true then u σ H1 Q else Q false H1
noncomputable def tOr (t u:TT):TT:=fun σ H Q=>t σ H fun c H1=>if c=true then Q true H1 else u σ H1 Q
noncomputable def tNot (t:TT):TT:=fun σ H Q=>t σ H fun c H1=>Q (!c) H1
theorem pw_and1 (ha:PT X a tA):PW X (.BoolOp .And [a] pos) tA:=by
 intro wh pins s σ H Q I h
 refine isTrue_and (thn (ha pins s σ H Q I h) fun c s1 e=>?_)
 cases c with
 |true=>exact isTrue_and_nil e
 |false=>exact e
theorem pw_or1 (ha:PT X a tA):PW X (.BoolOp .Or [a] pos) tA:=by
 intro wh pins s σ H Q I h
 refine isTrue_or (thn (ha pins s σ H Q I h) fun c s1 e=>?_)
 cases c with
 |false=>exact isTrue_or_nil e
 |true=>exact e
theorem pw_and (ha:PT X a tA) (hb:PW X (.BoolOp .And (b::rest) pos) tB'):PW X (.BoolOp .And (a::b::rest) pos) (tAnd tA tB'):=by
 intro wh pins s σ H Q I h
 refine isTrue_and (thn (ha pins s σ H _ I h) fun c s1 ⟨H1,I1,q1⟩=>?_)
 cases c with
 |true=>exact hb wh pins s1 σ H1 Q I1 q1
 |false=>exact ⟨H1,I1,q1⟩
theorem pw_or (ha:PT X a tA) (hb:PW X (.BoolOp .Or (b::rest) pos) tB'):PW X (.BoolOp .Or (a::b::rest) pos) (tOr tA tB'):=by
 intro wh pins s σ H Q I h
 refine isTrue_or (thn (ha pins s σ H _ I h) fun c s1 ⟨H1,I1,q1⟩=>?_)
 cases c with
 |true=>exact ⟨H1,I1,q1⟩
 |false=>exact hb wh pins s1 σ H1 Q I1 q1
theorem pt_not (ha:PT X a tA):PT X (.UnaryOp .Not a pos) (tNot tA):=by
 intro pins s σ H Q I h
 exact isTrue_not (ha pins s σ H (fun c H1=>Q (!c) H1) I h)
noncomputable def tAndV (ta tb:TE):TE:=fun σ H Q=>ta σ H fun x H1=>∃c,x=.bl c/\if c=true then tb σ H1 Q else Q (.bl false) H1
noncomputable def tOrV (ta tb:TE):TE:=fun σ H Q=>ta σ H fun x H1=>∃c,x=.bl c/\if c=true then Q (.bl true) H1 else tb σ H1 Q
noncomputable def tNotV (ta:TE):TE:=fun σ H Q=>ta σ H fun x H1=>∃c,x=.bl c/\Q (.bl (!c)) H1
theorem pe_one {op} {t:TE} (h:PE X a t):PE X (.BoolOp op [a] pos) t:=fun pins s σ H Q I hw=>BoolOp_one (h pins s σ H Q I hw)
theorem pe_and (ha:PE X a ta) (hb:PE X (.BoolOp .And (b::rest) pos) tb):PE X (.BoolOp .And (a::b::rest) pos) (tAndV ta tb):=by
 intro pins s σ H Q I h
 refine BoolOp_and (thn (ha pins s σ H _ I h) fun v s1 ⟨x,H1,I1,r1,q1⟩=>?_)
 obtain ⟨c,rfl,q1⟩:=q1
 cases r1
 refine wpAny_truthy_bool ?_
 cases c with
 |true=>exact hb pins s1 σ H1 Q I1 q1
 |false=>exact ⟨.bl false,H1,I1,rfl,q1⟩
theorem pe_or (ha:PE X a ta) (hb:PE X (.BoolOp .Or (b::rest) pos) tb):PE X (.BoolOp .Or (a::b::rest) pos) (tOrV ta tb):=by
 intro pins s σ H Q I h
 refine BoolOp_or (thn (ha pins s σ H _ I h) fun v s1 ⟨x,H1,I1,r1,q1⟩=>?_)
 obtain ⟨c,rfl,q1⟩:=q1
 cases r1
 refine wpAny_truthy_bool ?_
 cases c with
 |false=>exact hb pins s1 σ H1 Q I1 q1
 |true=>exact ⟨.bl true,H1,I1,rfl,q1⟩
theorem pe_not (ha:PE X a ta):PE X (.UnaryOp .Not a pos) (tNotV ta):=by
 intro pins s σ H Q I h
 refine UnaryOp_ (thn (ha pins s σ H _ I h) fun v s1 ⟨x,H1,I1,r1,q1⟩=>?_)
 obtain ⟨c,rfl,q1⟩:=q1
 cases r1
 exact not_of (wpAny_truthy_bool ⟨.bl (!c),H1,I1,rfl,q1⟩)
noncomputable def tIf (t:TT) (ta tb:TE):TE:=fun σ H Q=>t σ H fun c H1=>if c=true then ta σ H1 Q else tb σ H1 Q
theorem pe_ifExp {c:Expr} (hc:PT X c tA) (ha:PE X a ta) (hb:PE X b tb):PE X (.IfExp c a b pos) (tIf tA ta tb):=by
 intro pins s σ H Q I h
 refine wpAny_IfExp (thn (hc pins s σ H _ I h) fun d s1 ⟨H1,I1,q1⟩=>?_)
 cases d with
 |true=>exact ha pins s1 σ H1 Q I1 q1
 |false=>exact hb pins s1 σ H1 Q I1 q1
end
end L2
namespace L2
open PySem PySem.Spec PyProof.Rows
noncomputable def SqL (K:PySem.W.Frag) (H:Hp) (a:Addr) (xs:List V):Prop:=
 Rd H a (.lst xs)\/
  ∃(o:Obj) (its:Array Value) (n:Nat),K.lookup a=some o/\o.cls=.type "list"/\o.dict=none/\o.data=.seq its n/\its.size<=sizeLine/\Vals xs its.toList
noncomputable def SqT (K:PySem.W.Frag) (H:Hp) (a:Addr) (xs:List V):Prop:=
 Rd H a (.tup xs)\/
  ∃(o:Obj) (its:Array Value) (n:Nat),K.lookup a=some o/\o.cls=.type "tuple"/\o.data=.seq its n/\its.size<=sizeLine/\Vals xs its.toList
noncomputable def absV:Value->Option V
 |.none=>some .non
 |.bool b=>some (.bl b)
 |.int i _=>some (.int i)
 |.str x _=>some (.str x)
 |.bytes b _=>some (.byt b)
 |.float b _=>some (.flt b)
 |.ref a=>some (.ref a)
 |.type n=>some (.ty n)
 |_=>none
theorem RelV.abs {x:V} {u:Value} (r:RelV x u):absV u=some x:=by
 cases x with
 |non=>cases r;rfl
 |bl _=>cases r;rfl
 |int _=>obtain ⟨t,rfl⟩:=r;rfl
 |str _=>obtain ⟨t,rfl⟩:=r;rfl
 |byt _=>obtain ⟨t,rfl⟩:=r;rfl
 |flt _=>obtain ⟨t,rfl⟩:=r;rfl
 |ref _=>cases r;rfl
 |ty _=>cases r;rfl
theorem RelV.inj {x y:V} {u:Value} (r:RelV x u) (q:RelV y u):x=y:=Option.some.inj (r.abs.symm.trans q.abs)
theorem Vals.inj:∀{xs ys:List V} {us:List Value},Vals xs us->Vals ys us->xs=ys
 |_,_,_,.nil,.nil=>rfl
 |_,_,_,.cons r t,.cons r' t'=>by rw [r.inj r',Vals.inj t t']
section
variable {X:Cx} {pins:List (Addr × Obj)} {σ:St} {H:Hp} {s:Shared} {a:Addr} {xs ys:List V}
theorem SqL.of {K:PySem.W.Frag} (h:H a=some (.lst xs)):SqL K H a xs:=.inl (.inl h)
theorem SqT.of {K:PySem.W.Frag} (h:H a=some (.tup xs)):SqT K H a xs:=.inl (.inl h)
theorem Inv.list (I:Inv X pins σ H s) (h:SqL X.K H a xs):∃its:List Value,Vals xs its/\PlainL s.heap a its.toArray/\xs.length<=sizeLine:=by
 rcases h with h|⟨o,its,n,hk,hc,hd,hs,hz,r⟩
 · obtain ⟨z,its,n,r,e⟩:=h.ok I.hok
   exact ⟨its,r,⟨_,n,e,rfl,rfl,rfl⟩,z⟩
 · refine ⟨its.toList,r,⟨o,n,I.kIn a o hk,hc,hd,by simpa using hs⟩,?_⟩
   have e:=r.length
   simp only [Array.length_toList] at e
   omega
theorem Inv.tuple (I:Inv X pins σ H s) (h:SqT X.K H a xs):∃its:List Value,Vals xs its/\IsTup s.heap a its.toArray/\xs.length<=sizeLine:=by
 rcases h with h|⟨o,its,n,hk,hc,hs,hz,r⟩
 · obtain ⟨z,its,r,p⟩:=h.ok I.hok
   exact ⟨its,r,p,z⟩
 · refine ⟨its.toList,r,⟨o,I.kIn a o hk,hc,n,by simpa using hs⟩,?_⟩
   have e:=r.length
   simp only [Array.length_toList] at e
   omega
theorem Inv.list_inj (I:Inv X pins σ H s) (h:SqL X.K H a xs) (h':SqL X.K H a ys):xs=ys:=by
 obtain ⟨its,r,⟨o,n,e,_,_,d⟩,_⟩:=I.list h
 obtain ⟨its',r',⟨o',n',e',_,_,d'⟩,_⟩:=I.list h'
 rw [e] at e';cases e'
 rw [d] at d'
 injection d' with d1 _
 have:its=its':=by simpa using congrArg Array.toList d1
 subst this
 exact r.inj r'
theorem Inv.tuple_inj (I:Inv X pins σ H s) (h:SqT X.K H a xs) (h':SqT X.K H a ys):xs=ys:=by
 obtain ⟨its,r,⟨o,e,_,n,d⟩,_⟩:=I.tuple h
 obtain ⟨its',r',⟨o',e',_,n',d'⟩,_⟩:=I.tuple h'
 rw [e] at e';cases e'
 rw [d] at d'
 injection d' with d1 _
 have:its=its':=by simpa using congrArg Array.toList d1
 subst this
 exact r.inj r'
end
noncomputable abbrev Cx.wish (X:Cx) (E:Value->Shared->Prop):Cx:={X with xe:=E}
noncomputable abbrev Cx.nox (X:Cx):Cx:=X.wish fun _ _=>False
theorem Cx.Ok.wish {X:Cx} (ok:X.Ok) (E:Value->Shared->Prop):(X.wish E).Ok:=
 ⟨ok.mod,ok.kind,ok.glob,ok.blt,ok.above,ok.inj,ok.has,ok.cab,ok.hd,ok.frames,ok.stk,ok.exf,ok.bs,ok.bsz,ok.noex,ok.exfs,ok.funs,ok.frf⟩
theorem Cx.Ok.unwish {X:Cx} {E:Value->Shared->Prop} (ok:(X.wish E).Ok):X.Ok:=
 ⟨ok.mod,ok.kind,ok.glob,ok.blt,ok.above,ok.inj,ok.has,ok.cab,ok.hd,ok.frames,ok.stk,ok.exf,ok.bs,ok.bsz,ok.noex,ok.exfs,ok.funs,ok.frf⟩
section
variable {X:Cx} {pins:List (Addr × Obj)} {σ:St} {H:Hp} {s:Shared} {E:Value->Shared->Prop}
theorem Inv.wish (I:Inv X pins σ H s) (E:Value->Shared->Prop):Inv (X.wish E) pins σ H s:=⟨I.ok.wish E,I.os,I.bare,I.base,I.loc,I.cell,I.free,I.freeC,I.pin,I.hok,I.len⟩
theorem Inv.unwish (I:Inv (X.wish E) pins σ H s):Inv X pins σ H s:=⟨I.ok.unwish,I.os,I.bare,I.base,I.loc,I.cell,I.free,I.freeC,I.pin,I.hok,I.len⟩
theorem SP.unwish {D:Ends} {f:Flow} {s':Shared} (h:SP (X.wish E) pins D f s'):SP X pins D f s':=by
 cases f with
 |next=>obtain ⟨σ',H',I,q⟩:=h;exact ⟨σ',H',I.unwish,q⟩
 |brk=>obtain ⟨σ',H',I,q⟩:=h;exact ⟨σ',H',I.unwish,q⟩
 |cont=>obtain ⟨σ',H',I,q⟩:=h;exact ⟨σ',H',I.unwish,q⟩
 |ret u=>obtain ⟨v,σ',H',I,r,q⟩:=h;exact ⟨v,σ',H',I.unwish,r,q⟩
theorem PE.nox {e:Expr} {t:TE} (h:PE X.nox e t):PE X e t:=fun pins s σ H Q I hw=>
 wpAny_mono (h pins s σ H Q (I.wish _) hw) (fun _ _ ⟨v,H',I',r,q⟩=>⟨v,H',I'.unwish,r,q⟩) fun _ _ z=>False.elim z
theorem PSs.nox {st:List Stmt} {t:TS} (h:PSs X.nox st t):PSs X st t:=fun pins s σ H D I hw=>
 wpAny_mono (h pins s σ H D (I.wish _) hw) (fun _ _ q=>q.unwish) fun _ _ z=>False.elim z
end
section
variable {X:Cx} {st:Stmt} {rest:List Stmt} {t u:TS} {e:Expr} {te:TE} {pos:Pos}
noncomputable def tNext:TS:=fun D σ H=>D.nx σ H
noncomputable def tSeq (t u:TS):TS:=fun D σ H=>t {D with nx:=u D} σ H
theorem pss_nil:PSs X [] tNext:=fun _ _ σ H _ I h=>wpAny_execs_nil ⟨σ,H,I,h⟩
theorem pss_cons (h1:PS X st t) (h2:PSs X rest u):PSs X (st::rest) (tSeq t u):=by
 intro pins s σ H D I h
 refine wpAny_execs_cons (thn (h1 pins s σ H {D with nx:=u D} I h) fun f s1 q=>?_)
 cases f with
 | next =>
   obtain ⟨σ',H',I',q⟩:=q
   exact h2 pins s1 σ' H' D I' q
 |ret v=>exact q
 |brk=>exact q
 |cont=>exact q
theorem pss_one (h1:PS X st t):PSs X [st] t:=by
 intro pins s σ H D I h
 refine wpAny_execs_cons (thn (h1 pins s σ H D I h) fun f s1 q=>?_)
 cases f with
 |next=>exact wpAny_execs_nil q
 |ret v=>exact q
 |brk=>exact q
 |cont=>exact q
theorem Inv.quiet {pins:List (Addr × Obj)} {σ:St} {H:Hp} {s:Shared} (I:Inv X pins σ H s):interactive X.env=false:=by simp [interactive,I.ok.kind]
noncomputable def tDrop (te:TE):TS:=fun D σ H=>te σ H fun _ H1=>D.nx σ H1
theorem ps_expr (he:PE X e te) (hs:swapsWith e none pos.line X.env=pure false:=by rfl):PS X (.Expr e pos) (tDrop te):=by
 intro pins s σ H D I h
 exact wpAny_Expr_any (thn (he pins s σ H _ I h) fun v s1 ⟨x,H1,I1,r1,q1⟩=>⟨σ,H1,I1,q1⟩) I.quiet hs
noncomputable def tRet (te:TE):TS:=fun D σ H=>te σ H D.rt
theorem ps_ret (he:PE X e te):PS X (.Return (some e) pos) (tRet te):=by
 intro pins s σ H D I h
 exact wpAny_Return_some (thn (he pins s σ H _ I h) fun v s1 ⟨x,H1,I1,r1,q1⟩=>⟨x,σ,H1,I1,r1,q1⟩)
noncomputable def tRetN:TS:=fun D _ H=>D.rt .non H
theorem ps_retN:PS X (.Return none pos) tRetN:=fun _ _ σ H _ I h=>wpAny_Return_none ⟨.non,σ,H,I,rfl,h⟩
noncomputable def tIfS (c:TT) (t u:TS):TS:=fun D σ H=>c σ H fun b H1=>if b=true then t D σ H1 else u D σ H1
theorem ps_if {c:Expr} {a b:List Stmt} {tc:TT} (hc:PT X c tc) (ha:PSs X a t) (hb:PSs X b u):PS X (.If c a b pos) (tIfS tc t u):=by
 intro pins s σ H D I h
 refine wpAny_If (thn (hc pins s σ H _ I h) fun d s1 ⟨H1,I1,q1⟩=>?_)
 cases d with
 |true=>exact ha pins s1 σ H1 D I1 q1
 |false=>exact hb pins s1 σ H1 D I1 q1
end
noncomputable abbrev TG:=V->St->Hp->(St->Hp->Prop)->Prop
noncomputable abbrev TGs:=List V->St->Hp->(St->Hp->Prop)->Prop
noncomputable def PG (X:Cx) (target:Expr) (t:TG):Prop:=
 ∀(pins:List (Addr × Obj)) (s:Shared) (σ:St) (H:Hp) (v:V) (u:Value) (Q:St->Hp->Prop),Inv X pins σ H s->RelV v u->t v σ H Q->
  wpAny (model X.prog X.w) X.A (assign target X.env u) (fun _ s'=>∃σ' H',Inv X pins σ' H' s'/\Q σ' H') X.xe s
noncomputable def PGs (X:Cx) (ts:List Expr) (t:TGs):Prop:=
 ∀(pins:List (Addr × Obj)) (s:Shared) (σ:St) (H:Hp) (vs:List V) (us:List Value) (Q:St->Hp->Prop),Inv X pins σ H s->Vals vs us->t vs σ H Q->
  wpAny (model X.prog X.w) X.A (assignInOrder ((assignEach ts X.env).map (·.2)) us) (fun _ s'=>∃σ' H',Inv X pins σ' H' s'/\Q σ' H') X.xe s
section
variable {X:Cx} {pos:Pos}
noncomputable def gName (i:Nat):TG:=fun v σ H Q=>Q (σ.set i (some v)) H
theorem pg_name {i:Nat} {x:Str} (hN:X.N.Nodup) (hi:X.N[i]?=some x) (hx:Loc X.env.scope x) (hf:X.fn x=true\/X.env.scope.names.lookup x=some .local:=by first|exact .inl rfl|exact .inr rfl|assumption):PG X (.Name x pos) (gName i):=by
 intro pins s σ H v u Q I r h
 exact wpAny_assign_Name (store_ok I hN hi hx r (fun s' I'=>⟨_,H,I',h⟩) hf)
noncomputable def gNil:TGs:=fun vs σ H Q=>vs=[]/\Q σ H
noncomputable def gCons (t:TG) (u:TGs):TGs:=fun vs σ H Q=>∃v r,vs=v::r/\t v σ H fun σ' H'=>u r σ' H' Q
theorem pgs_nil:PGs X [] gNil:=by
 intro pins s σ H vs us Q I r h
 obtain ⟨e,h⟩:=h
 subst e
 cases r
 exact assignInOrder_nil ⟨σ,H,I,h⟩
theorem pgs_cons {e:Expr} {es:List Expr} {t:TG} {u:TGs} (h1:PG X e t) (h2:PGs X es u)
  (hs:(assignEach (e::es) X.env).map (·.2)=assign e X.env::(assignEach es X.env).map (·.2):=by rfl):PGs X (e::es) (gCons t u):=by
 intro pins s σ H vs us Q I r h
 obtain ⟨v,vr,e1,h⟩:=h
 subst e1
 cases r with
 | cons r rr =>
   rw [hs]
   refine assignInOrder_cons (thn (h1 pins s σ H _ _ _ I r h) fun _ s1 ⟨σ1,H1,I1,q1⟩=>?_)
   exact h2 pins s1 σ1 H1 _ _ Q I1 rr q1
noncomputable def gTup (K:PySem.W.Frag) (n:Nat) (t:TGs):TG:=fun v σ H Q=>∃a xs,v=.ref a/\SqT K H a xs/\xs.length=n/\t xs σ H Q
theorem pg_tup {es:List Expr} {k:Nat} {t:TGs} {n:Nat} (hc:X.calm=true) (h:PGs X es t)
  (hn:(assignEach es X.env).length=n:=by rfl) (hst:(assignEach es X.env).findIdx? (·.1)=none:=by rfl):PG X (.Tuple es k pos) (gTup X.K n t):=by
 intro pins s σ H v u Q I r hw
 obtain ⟨a,xs,e1,hq,hl,hw⟩:=hw
 subst e1
 cases r
 obtain ⟨its,rv,ht,hz⟩:=I.tuple hq
 refine assign_Tuple_tuple (I.ok.hd hc) ht (by simp [hn,<-hl,rv.length]) hst fun h' hx=>?_
 have I1:Inv X pins σ H {s with heap:=h'}:=I.kept (t':=s.toks) fun b o e=>hx b o (Nat.ne_of_lt (Heap.lt_size e)) e
 exact h pins _ σ H xs _ Q I1 (by simpa using rv) hw
noncomputable def tAsg (te:TE) (g:TG):TS:=fun D σ H=>te σ H fun x H1=>g x σ H1 D.nx
theorem ps_asg {tg e:Expr} {te:TE} {g:TG} (he:PE X e te) (hg:PG X tg g) (hs:swapsWithSole [tg] e pos.line X.env=pure false:=by rfl) (hw:swappedStores [tg] e X.env=pure none:=by rfl)
  (h1:(assignEach [tg] X.env).map (·.2)=[assign tg X.env]:=by rfl):PS X (.Assign [tg] e pos) (tAsg te g):=by
 intro pins s σ H D I h
 refine wpAny_Assign_stores (thn (he pins s σ H _ I h) fun v s1 ⟨x,H1,I1,r1,q1⟩=>?_) hs hw
 rw [h1]
 exact thn (hg pins s1 σ H1 x v _ I1 r1 q1) fun _ s2 q=>q
theorem ps_set {i:Nat} {x:Str} {e:Expr} {te:TE} {pos':Pos} (hN:X.N.Nodup) (hi:X.N[i]?=some x) (hx:Loc X.env.scope x) (he:PE X e te) (hs:swapsWith e (some (.Name x pos')) pos.line X.env=pure false:=by rfl) (hf:X.fn x=true\/X.env.scope.names.lookup x=some .local:=by first|exact .inl rfl|exact .inr rfl|assumption) :
  PS X (.Assign [.Name x pos'] e pos) (tAsg te (gName i)):=by
 intro pins s σ H D I h
 refine wpAny_Assign_Name (thn (he pins s σ H _ I h) fun v s1 ⟨y,H1,I1,r1,q1⟩=>?_) hs
 exact store_ok I1 hN hi hx r1 (fun s2 I2=>⟨_,H1,I2,q1⟩) hf
end
section
variable {X:Cx} {pos:Pos}
end
structure It where
 go:Nat->Hp->Prop
 yld:Nat->Hp->V->Hp->Prop
 stop:Nat->Hp->Prop
noncomputable def FpOk (X:Cx) (pins:List (Addr × Obj)) (H:Hp) (b:Addr):Prop:=
 H b=none/\b≠X.env.locals/\b∉X.fs/\(b∈X.ex\/X.s₀.heap.objs.size<=b)/\(∀x c,X.env.cells.lookup x=some c->c≠b)/\∀p∈X.pn++pins,p.1≠b
theorem Inv.fpOk {X:Cx} {pins:List (Addr × Obj)} {σ:St} {H H':Hp} {s:Shared} {b:Addr} (I:Inv X pins σ H s) (hb:s.heap.objs.size<=b) (hn:H' b=none):FpOk X pins H' b:=by
 refine ⟨hn,Nat.ne_of_gt (Nat.lt_of_lt_of_le I.lt hb),I.nofs hb,.inr (Nat.le_trans I.sz hb),fun x c e z=>?_,fun p hp z=>?_⟩
 · obtain ⟨v,q⟩:=I.cell x c e
   exact absurd (Nat.lt_of_lt_of_le q.lt (by rw [z];exact hb)) (Nat.lt_irrefl _)
 · exact absurd (Nat.lt_of_lt_of_le (Heap.lt_size (I.pin p hp).1) (by rw [z];exact hb)) (Nat.lt_irrefl _)
structure Turn (P:Program) (w:World) (K:PySem.W.Frag) (tg:Expr) (J:It) (fp:List Addr) (it:Addr) (tn:Nat->Heap->Prop):Prop where
 mem:it∈fp
 obj:∀i h,tn i h->∀b∈fp,∃o,h.get? b=some o/\∀v,o.data≠.cell v
 keep:∀i h h',tn i h->(∀b∈fp,∀o,h.get? b=some o->h'.get? b=some o)->tn i h'
 item:∀(X:Cx),X.prog=P->X.w=w->X.K=K->X.calm=true->∀(i:Nat) (pins:List (Addr × Obj)) (s:Shared) (σ:St) (H:Hp) (E:Value->Shared->Prop),Inv X pins σ H s->(∀b∈fp,FpOk X pins H b)->tn i s.heap->J.go i H->
  wpAny (model P w) X.A (pyNext (.ref it)) (fun r s1=>∃u,r=some u/\
   wpAny (model P w) X.A (letOwnedTupleGo tg (.ref it) u) (fun _ s2=>∃x H',Inv X pins σ H' s2/\RelV x u/\J.yld i H x H'/\tn (i+1) s2.heap/\∀b∈fp,H' b=none) E s1) E s
 done:∀(X:Cx),X.prog=P->X.w=w->X.K=K->X.calm=true->∀(i:Nat) (pins:List (Addr × Obj)) (s:Shared) (σ:St) (H:Hp) (E:Value->Shared->Prop),Inv X pins σ H s->(∀b∈fp,FpOk X pins H b)->tn i s.heap->J.stop i H->
  wpAny (model P w) X.A (pyNext (.ref it)) (fun r s1=>r=none/\Inv X pins σ H s1) E s
 self:∀(A:Around) (i:Nat) (s:Shared) (Q:Value->Shared->Prop) (E:Value->Shared->Prop),tn i s.heap->Q (.ref it) s->wpAny (model P w) A (pyIter (.ref it)) Q E s
noncomputable abbrev TI:=St->Hp->(It->Hp->Prop)->Prop
noncomputable def PIE (X:Cx) (pins:List (Addr × Obj)) (σ:St) (tg:Expr) (R:It->Hp->Prop) (itv:Value) (s2:Shared):Prop:=
 ∃(it:Addr) (fp:List Addr) (tn:Nat->Heap->Prop) (J:It) (H':Hp),itv=.ref it/\Inv X pins σ H' s2/\Turn X.prog X.w X.K tg J fp it tn/\tn 0 s2.heap/\(∀b∈fp,FpOk X pins H' b)/\R J H'
noncomputable def PI (X:Cx) (tg iter:Expr) (wi:TI):Prop:=
 ∀(pins:List (Addr × Obj)) (s:Shared) (σ:St) (H:Hp) (R:It->Hp->Prop),Inv X pins σ H s->wi σ H R->
  wpAny (model X.prog X.w) X.A (eval iter X.env) (fun v s1=>wpAny (model X.prog X.w) X.A (pyIter v) (PIE X pins σ tg R) X.xe s1) X.xe s
theorem go_of {M:Model} {A:Around} {E:Value->Shared->Prop} {s:Shared} {tg:Expr} {it:Addr} {u:Value} {o:Obj} {n:String} {vs:Array Value} {Q:Unit->Shared->Prop} (ho:s.heap.get? it=some o) (hc:o.cls=.type n) (hd:o.data=.fields vs)
  (hn:["enumerate","zip","dict_itemiterator","dict_reverseitemiterator","odict_iterator","itertools.zip_longest","itertools.pairwise"].contains n=false) (hQ:Q () s):wpAny M A (letOwnedTupleGo tg (.ref it) u) Q E s:=by
 unfold letOwnedTupleGo
 cases tg<;>first
  |exact wpAny_pure hQ
  |(cases u<;>first
   |exact wpAny_pure hQ
   | (refine wpAny_bind (wpAny_load ho ?_)
      rw [hc,hd]
      show wpAny M A (if (["enumerate","zip","dict_itemiterator","dict_reverseitemiterator","odict_iterator","itertools.zip_longest","itertools.pairwise"].contains n&&vs[0]? == some (rawInt _))=true then _ else _) Q E s
      rw [if_neg (by intro h;rw [hn,Bool.false_and] at h;cases h)]
      exact wpAny_pure hQ))
noncomputable def Itl (K:PySem.W.Frag) (a:Addr):It:=
 ⟨fun i H=>∃xs x,SqL K H a xs/\xs[i]?=some x,fun i H x H'=>H'=H/\∀xs,SqL K H a xs->xs[i]?=some x,fun i H=>∃xs,SqL K H a xs/\xs.length<=i⟩
noncomputable def Itt (K:PySem.W.Frag) (a:Addr):It:=
 ⟨fun i H=>∃xs x,SqT K H a xs/\xs[i]?=some x,fun i H x H'=>H'=H/\∀xs,SqT K H a xs->xs[i]?=some x,fun i H=>∃xs,SqT K H a xs/\xs.length<=i⟩
noncomputable def Itr (lo:Int) (n:Nat):It:=⟨fun i _=>i<n,fun i H x H'=>H'=H/\x=.int (lo+i),fun i _=>n<=i⟩
theorem turn_list {P:Program} {w:World} {K:PySem.W.Frag} {tg:Expr} (a it:Addr):Turn P w K tg (Itl K a) [it] it (fun i h=>h.IsListIter it a i) where
 mem:=by simp
 obj:=fun i h st b hb=>by
  have e:b=it:=by simpa using hb
  subst e
  obtain ⟨o,e,c,d⟩:=st
  exact ⟨o,e,fun v z=>by rw [d] at z;cases z⟩
 keep:=fun i h h' st k=>st.at fun o e=>k it (by simp) o e
 item:=by
  intro X hP hw hK hc i pins s σ H E I hf st hg
  subst hP hw hK
  obtain ⟨xs,x,hq,hx⟩:=hg
  obtain ⟨its,rv,p,hz⟩:=I.list hq
  obtain ⟨u,hu,ru⟩:=rv.get hx
  obtain ⟨f0,f1,f2,f3,f4,f5⟩:=hf it (by simp)
  refine wpAny_pyNext_list_item st p.isList (x:=u) (by simpa using hu) fun h' st' sb=>?_
  have I1:Inv X pins σ H {s with heap:=h'}:=I.turned (t':=s.toks) (fun b o hb e=>(sb.2 b hb).trans e) f0 f1 f3 f4 f5
  obtain ⟨o,e,c,d⟩:=id st'
  exact ⟨u,rfl,go_of (s:={s with heap:=h'}) e c d (by decide) ⟨x,H,I1,ru,⟨rfl,fun ys hy=>by rw [I.list_inj hy hq];exact hx⟩,st',fun b hb=>(hf b hb).1⟩⟩
 done:=by
  intro X hP hw hK hc i pins s σ H E I hf st hg
  subst hP hw hK
  obtain ⟨xs,hq,hx⟩:=hg
  obtain ⟨its,rv,p,hz⟩:=I.list hq
  obtain ⟨f0,f1,f2,f3,f4,f5⟩:=hf it (by simp)
  have hl:=rv.length
  exact wpAny_pyNext_list_end (I.ok.hd hc) st p.isList (by simp;omega) fun h' eb=>⟨rfl,I.turned (t':=s.toks) (fun b o hb e=>eb b o hb e) f0 f1 f3 f4 f5⟩
 self:=fun _ _ _ _ _ st h=>wpAny_pyIter_listiter st h
theorem turn_tuple {P:Program} {w:World} {K:PySem.W.Frag} {tg:Expr} (a it:Addr):Turn P w K tg (Itt K a) [it] it (fun i h=>h.IsTupleIter it a i) where
 mem:=by simp
 obj:=fun i h st b hb=>by
  have e:b=it:=by simpa using hb
  subst e
  obtain ⟨o,e,c,d⟩:=st
  exact ⟨o,e,fun v z=>by rw [d] at z;cases z⟩
 keep:=fun i h h' st k=>st.at fun o e=>k it (by simp) o e
 item:=by
  intro X hP hw hK hc i pins s σ H E I hf st hg
  subst hP hw hK
  obtain ⟨xs,x,hq,hx⟩:=hg
  obtain ⟨its,rv,p,hz⟩:=I.tuple hq
  obtain ⟨u,hu,ru⟩:=rv.get hx
  obtain ⟨f0,f1,f2,f3,f4,f5⟩:=hf it (by simp)
  refine wpAny_pyNext_tuple_item st (show s.heap.IsTuple a its.toArray from p) (x:=u) (by simpa using hu) fun h' st' sb=>?_
  have I1:Inv X pins σ H {s with heap:=h'}:=I.turned (t':=s.toks) (fun b o hb e=>(sb.2 b hb).trans e) f0 f1 f3 f4 f5
  obtain ⟨o,e,c,d⟩:=id st'
  exact ⟨u,rfl,go_of (s:={s with heap:=h'}) e c d (by decide) ⟨x,H,I1,ru,⟨rfl,fun ys hy=>by rw [I.tuple_inj hy hq];exact hx⟩,st',fun b hb=>(hf b hb).1⟩⟩
 done:=by
  intro X hP hw hK hc i pins s σ H E I hf st hg
  subst hP hw hK
  obtain ⟨xs,hq,hx⟩:=hg
  obtain ⟨its,rv,p,hz⟩:=I.tuple hq
  obtain ⟨f0,f1,f2,f3,f4,f5⟩:=hf it (by simp)
  have hl:=rv.length
  exact wpAny_pyNext_tuple_end (I.ok.hd hc) st (show s.heap.IsTuple a its.toArray from p) (by simp;omega) fun h' eb=>⟨rfl,I.turned (t':=s.toks) (fun b o hb e=>eb b o hb e) f0 f1 f3 f4 f5⟩
 self:=fun _ _ _ _ _ st h=>wpAny_pyIter_tupleiter st h
theorem turn_range {P:Program} {w:World} {K:PySem.W.Frag} {tg:Expr} (it:Addr) (lo:Int) (n:Nat):Turn P w K tg (Itr lo n) [it] it (fun i h=>IsRangeIter h it (lo+(i:Nat) * 1) ((n:Int) - (i:Nat)) 1) where
 mem:=by simp
 obj:=fun i h st b hb=>by
  have e:b=it:=by simpa using hb
  subst e
  exact ⟨_,st,fun v z=>by
   have z':Data.fields _=Data.cell v:=z
   cases z'⟩
 keep:=fun i h h' st k=>k it (by simp) _ st
 item:=by
  intro X hP hw hK hc i pins s σ H E I hf st hg
  subst hP hw hK
  obtain ⟨f0,f1,f2,f3,f4,f5⟩:=hf it (by simp)
  have W:=Walks.range (prog:=X.prog) (w:=X.w) (I.ok.hd hc) it lo 1 n
  refine W.item i s _ _ hg st fun v h' tk hv st' kk=>?_
  obtain ⟨t,rfl⟩:=hv
  have I1:Inv X pins σ H {s with heap:=h',toks:=tk}:=I.turned (fun b o hb e=>kk b o (by simpa using hb) e) f0 f1 f3 f4 f5
  refine ⟨_,rfl,go_of (s:={s with heap:=h',toks:=tk}) (n:="range_iterator") st' rfl rfl (by decide) ⟨.int (lo+i),H,I1,⟨t,?_⟩,⟨rfl,rfl⟩,st',fun b hb=>(hf b hb).1⟩⟩
  rw [Int.mul_one]
 done:=by
  intro X hP hw hK hc i pins s σ H E I hf st hg
  subst hP hw hK
  obtain ⟨f0,f1,f2,f3,f4,f5⟩:=hf it (by simp)
  exact wpAny_pyNext_range_end (I.ok.hd hc) st (by have:n<=i:=hg;omega) fun h' eb=>⟨rfl,I.turned (t':=s.toks) (fun b o hb e=>eb b o hb e) f0 f1 f3 f4 f5⟩
 self:=fun _ _ _ _ _ st h=>wpAny_pyIter_rangeiter st h
end L2
namespace L2
open PySem PySem.Spec PyProof.Rows
section
variable {X:Cx} {tg:Expr}
noncomputable def iList (K:PySem.W.Frag) (tl:TE):TI:=fun σ H R=>tl σ H fun x H1=>∃a,x=.ref a/\(∃xs,SqL K H1 a xs)/\R (Itl K a) H1
theorem pi_list {l:Expr} {tl:TE} (hl:PE X l tl):PI X tg l (iList X.K tl):=by
 intro pins s σ H R I h
 refine thn (hl pins s σ H _ I h) fun v s1 ⟨x,H1,I1,r1,q1⟩=>?_
 obtain ⟨a,e,⟨xs,hq⟩,q⟩:=q1
 subst e
 cases r1
 obtain ⟨its,rv,p,hz⟩:=I1.list hq
 refine wpAny_pyIter_list p.isList ?_
 refine ⟨s1.heap.objs.size,[s1.heap.objs.size],_,_,H1,rfl,I1.kept (t':=s1.toks) fun b o e=>Heap.get?_push_of_some _ e,turn_list a _,⟨_,Heap.get?_push_size _ rfl,rfl,rfl⟩,fun b hb=>?_,q⟩
 have e:b=s1.heap.objs.size:=by simpa using hb
 subst e
 exact I1.fpOk (Nat.le_refl _) (I1.hok.fresh (Nat.le_refl _))
theorem range_it {pins:List (Addr × Obj)} {σ:St} {H:Hp} {s:Shared} {R:It->Hp->Prop} {E:Value->Shared->Prop} {lo hi:Int} {t u v:Tok} {tk:Nat} (I:Inv X pins σ H s) (h1:-(2 ^ 62)<=lo) (h2:lo<2 ^ 62) (h3:-(2 ^ 62)<=hi) (h4:hi<2 ^ 62)
  (q:R (Itr lo (hi - lo).toNat) H):wpAny (model X.prog X.w) X.A (pyIter (.ref s.heap.objs.size)) (PIE X pins σ tg R) E {s with heap:=s.heap.push {cls:=.type "range",data:=.fields #[.int lo t,.int hi u,.int 1 v]},toks:=tk}:=by
 refine wpAny_pyIter_range (IsRange.new ..) (small_one h1 h2 h3 h4) ?_
 have I1:Inv X pins σ H {s with heap:=s.heap.push {cls:=.type "range",data:=.fields #[.int lo t,.int hi u,.int 1 v]},toks:=tk}:=I.kept fun b o e=>Heap.get?_push_of_some _ e
 refine ⟨(s.heap.push {cls:=.type "range",data:=.fields #[.int lo t,.int hi u,.int 1 v]}).objs.size,[(s.heap.push {cls:=.type "range",data:=.fields #[.int lo t,.int hi u,.int 1 v]}).objs.size],_,_,H,rfl,
  I1.kept (t':=tk) fun b o e=>Heap.get?_push_of_some _ e,turn_range _ lo (hi - lo).toNat,?_,fun b hb=>?_,q⟩
 · have e1:lo+((0:Nat):Int) * 1=lo:=by simp
   have e2:(((hi - lo).toNat:Nat):Int) - ((0:Nat):Int)=Builtin.Range.rangeSize lo hi 1:=by rw [rangeSize_one];split<;>omega
   show IsRangeIter _ _ (lo+((0:Nat):Int) * 1) ((((hi - lo).toNat:Nat):Int) - ((0:Nat):Int)) 1
   rw [e1,e2]
   exact Heap.get?_push_size _ rfl
 · have e:b=(s.heap.push {cls:=.type "range",data:=.fields #[.int lo t,.int hi u,.int 1 v]}).objs.size:=by simpa using hb
   subst e
   exact I1.fpOk (Nat.le_refl _) (I1.hok.fresh (Nat.le_refl _))
noncomputable def iRng1 (ta:TA):TI:=fun σ H R=>ta σ H fun vs H1=>∃j:Int,vs=[.int j]/\-(2 ^ 62)<=j/\j<2 ^ 62/\R (Itr 0 j.toNat) H1
noncomputable def iRng2 (ta:TA):TI:=fun σ H R=>ta σ H fun vs H1=>∃i j:Int,vs=[.int i,.int j]/\(-(2 ^ 62)<=i/\i<2 ^ 62/\-(2 ^ 62)<=j/\j<2 ^ 62)/\R (Itr i (j - i).toNat) H1
theorem pi_range1 {a:Expr} {ta:TA} {p pos:Pos} (hg:Gl X "range") (hm:X.mg "range"=none) (ha:PA X [a] ta) (hs:starEach [a] X.env=[(false,eval a X.env)]:=by rfl):PI X tg (.Call (.Name "range" p) [a] [] pos) (iRng1 ta):=by
 intro pins s σ H R I h
 refine Call_ (ld_blt I hg hm boot_range (PyProof.Rows.callWith_type1 (thn (ha pos pins s σ H _ I h) fun us s1 ⟨vs,H1,I1,r1,q1⟩=>?_) hs rfl))
 obtain ⟨j,e,q1,q2,q⟩:=q1
 subst e
 cases r1 with
 | cons r rr =>
   cases rr
   obtain ⟨t,rfl⟩:=r
   exact call_range_1 (range_it I1 (by omega) (by omega) q1 q2 (by simpa using q))
theorem pi_range2 {a b:Expr} {ta:TA} {p pos:Pos} (hg:Gl X "range") (hm:X.mg "range"=none) (ha:PA X [a,b] ta) (hs:starEach [a,b] X.env=[(false,eval a X.env),(false,eval b X.env)]:=by rfl) (hs2:starEach [b] X.env=[(false,eval b X.env)]:=by rfl) :
  PI X tg (.Call (.Name "range" p) [a,b] [] pos) (iRng2 ta):=by
 intro pins s σ H R I h
 refine Call_ (ld_blt I hg hm boot_range (PyProof.Rows.callWith_type1 (thn (ha pos pins s σ H _ I h) fun us s1 ⟨vs,H1,I1,r1,q1⟩=>?_) (by rw [hs,hs2]) (by rw [hs2];rfl)))
 obtain ⟨i,j,e,⟨q1,q2,q3,q4⟩,q⟩:=q1
 subst e
 cases r1 with
 | cons r rr =>
   cases rr with
   | cons r' rr =>
     cases rr
     obtain ⟨t,rfl⟩:=r
     obtain ⟨t',rfl⟩:=r'
     exact call_range_2 (range_it I1 q1 q2 q3 q4 q)
noncomputable def tFor (wi:TI) (g:TG) (tb:TS):TS:=fun D σ H=>wi σ H fun J H1=>∃W:Nat->Nat->St->Hp->Prop,(∃m,W 0 m σ H1)/\∀i m σ H,W i m σ H->
 (J.stop i H/\D.nx σ H)\/(J.go i H/\∃N:St->Hp->Prop,(∀σ' H',N σ' H'->∃m',m'<m/\W (i+1) m' σ' H')/\∀x H',J.yld i H x H'->g x σ H' fun σ2 H2=>tb {D with nx:=N,ct:=N,bk:=D.nx} σ2 H2)
noncomputable def pinsAt (fp:List Addr) (h:Heap):List (Addr × Obj):=fp.filterMap fun b=>(h.get? b).map fun o=>(b,o)
theorem mem_pinsAt {fp:List Addr} {h:Heap} {b:Addr} {o:Obj} (hb:b∈fp) (e:h.get? b=some o):(b,o)∈pinsAt fp h:=List.mem_filterMap.mpr ⟨b,hb,by rw [e];rfl⟩
theorem of_pinsAt {fp:List Addr} {h:Heap} {p:Addr × Obj} (hp:p∈pinsAt fp h):p.1∈fp/\h.get? p.1=some p.2:=by
 obtain ⟨b,hb,e⟩:=List.mem_filterMap.mp hp
 cases q:h.get? b with
 |none=>rw [q] at e;cases e
 | some o =>
   rw [q] at e
   have e':(b,o)=p:=Option.some.inj e
   subst e'
   exact ⟨hb,q⟩
theorem Inv.pinned {pins:List (Addr × Obj)} {σ:St} {H:Hp} {s:Shared} {fp:List Addr} (I:Inv X pins σ H s) (hf:∀b∈fp,FpOk X pins H b) (ho:∀b∈fp,∃o,s.heap.get? b=some o/\∀v,o.data≠.cell v):Inv X (pins++pinsAt fp s.heap) σ H s:=
 I.pins_of fun p hp=>(List.mem_append.mp hp).elim (fun z=>I.pin p (List.mem_append_right _ z)) fun z=>by
  obtain ⟨hb,e⟩:=of_pinsAt z
  obtain ⟨f0,f1,f2,_⟩:=hf p.1 hb
  obtain ⟨o,e',d⟩:=ho p.1 hb
  rw [e] at e';cases e'
  exact ⟨e,f0,f1,f2,d⟩
theorem Inv.unpinned {pins pl:List (Addr × Obj)} {σ:St} {H:Hp} {s:Shared} (I:Inv X (pins++pl) σ H s):Inv X pins σ H s:=I.pins_of fun p hp=>I.pin p (List.mem_append_right _ (List.mem_append_left _ hp))
theorem ps_for {iter:Expr} {body:List Stmt} {wi:TI} {g:TG} {tb:TS} {pos:Pos} (hp:PassesOwn (model X.prog X.w) X.A X.env X.xe) (hc:X.calm=true) (hi:PI X tg iter wi) (hg:PG X tg g) (hb:PSs X body tb)
  (hs:∀x,foldedSetIterable iter X.env x=pure x:=by intro _;rfl):PS X (.For tg iter body [] pos) (tFor wi g tb):=by
 intro pins s σ H D I h
 refine wpAny_For (thn (hi pins s σ H _ I h) fun v s1 h1=>thn h1 fun itv s2 h2=>?_) hs
 obtain ⟨it,fp,tn,J,H2,e,I2,T,st2,f2,W,⟨m0,w0⟩,turn⟩:=h2
 subst e
 -- what stays true of the iterator's objects through the loop
 have stat:∀{H':Hp},(∀b∈fp,H' b=none)->∀b∈fp,FpOk X pins H' b:=fun hn b hb=>⟨hn b hb,(f2 b hb).2⟩
 refine codeAny_forLoop_any (fun n s'=>∃i σ' H',Inv X pins σ' H' s'/\tn i s'.heap/\(∀b∈fp,H' b=none)/\W i n σ' H') ?_ m0 ⟨0,σ,H2,I2,st2,fun b hb=>(f2 b hb).1,w0⟩
 rintro n s3 ⟨i,σ3,H3,I3,st3,fr3,w3⟩
 rcases turn i n σ3 H3 w3 with ⟨stop,qn⟩|⟨go,N,hN,step⟩
 · refine wpAny_passesOwn hp (thn (T.done X rfl rfl rfl hc i pins s3 σ3 H3 X.xe I3 (stat fr3) st3 stop) fun r s4 ⟨hr,I4⟩=>?_)
   subst hr
   exact wpAny_execs_nil ⟨σ3,H3,I4,qn⟩
 · refine wpAny_passesOwn hp (thn (T.item X rfl rfl rfl hc i pins s3 σ3 H3 X.xe I3 (stat fr3) st3 go) fun r s4 ⟨u,hr,h4⟩=>?_)
   subst hr
   refine wpAny_passesOwn hp (thn h4 fun _ s5 ⟨x,H5,I5,r5,y5,st5,fr5⟩=>?_)
   have I5':=I5.pinned (stat fr5) (T.obj _ _ st5)
   refine wpAny_passesOwn hp (thn (hg _ s5 σ3 H5 x u _ I5' r5 (step x H5 y5)) fun _ s6 ⟨σ6,H6,I6,q6⟩=>?_)
   refine wpAny_passesOwn hp (thn (hb _ s6 σ6 H6 _ I6 q6) fun f s7 q7=>?_)
   have again:∀{σ7:St} {H7:Hp},Inv X (pins++pinsAt fp s5.heap) σ7 H7 s7->N σ7 H7->∃m,m<n/\∃i σ' H',Inv X pins σ' H' s7/\tn i s7.heap/\(∀b∈fp,H' b=none)/\W i m σ' H':=fun {σ7 H7} I7 n7=>by
    obtain ⟨m',hm,w7⟩:=hN σ7 H7 n7
    refine ⟨m',hm,i+1,σ7,H7,I7.unpinned,T.keep _ _ _ st5 fun b hb o e=>(I7.pin (b,o) (List.mem_append_right _ (List.mem_append_right _ (mem_pinsAt hb e)))).1,fun b hb=>?_,w7⟩
    obtain ⟨o,e,d⟩:=T.obj _ _ st5 b hb
    exact (I7.pin (b,o) (List.mem_append_right _ (List.mem_append_right _ (mem_pinsAt hb e)))).2.1
   cases f with
   |next=>obtain ⟨σ7,H7,I7,n7⟩:=q7;exact again I7 n7
   |cont=>obtain ⟨σ7,H7,I7,n7⟩:=q7;exact again I7 n7
   |brk=>obtain ⟨σ7,H7,I7,q7⟩:=q7;exact ⟨σ7,H7,I7.unpinned,q7⟩
   |ret v=>obtain ⟨x7,σ7,H7,I7,r7,q7⟩:=q7;exact ⟨x7,σ7,H7,I7.unpinned,r7,q7⟩
end
theorem for_list {K:PySem.W.Frag} {a:Addr} {xs:List V} {g:TG} {tb:TS} {D:Ends} {σ:St} {H:Hp} (Pv:Nat->St->Hp->Prop) (h0:Pv 0 σ H) (hl:∀i σ H,i<=xs.length->Pv i σ H->SqL K H a xs)
  (hs:∀i x σ H,xs[i]?=some x->Pv i σ H->g x σ H fun σ2 H2=>tb {D with nx:=Pv (i+1),ct:=Pv (i+1),bk:=D.nx} σ2 H2) (hd:∀σ H,Pv xs.length σ H->D.nx σ H) :
  ∃W:Nat->Nat->St->Hp->Prop,(∃m,W 0 m σ H)/\∀i m σ H,W i m σ H->
   ((Itl K a).stop i H/\D.nx σ H)\/((Itl K a).go i H/\∃N:St->Hp->Prop,(∀σ' H',N σ' H'->∃m',m'<m/\W (i+1) m' σ' H')/\∀x H',(Itl K a).yld i H x H'->g x σ H' fun σ2 H2=>tb {D with nx:=N,ct:=N,bk:=D.nx} σ2 H2):=by
 refine ⟨fun i m σ H=>m=xs.length - i/\i<=xs.length/\Pv i σ H,⟨xs.length,by simp,Nat.zero_le _,h0⟩,?_⟩
 rintro i m σ H ⟨rfl,hi,p⟩
 have q:=hl i σ H hi p
 by_cases hlt:i<xs.length
 · refine .inr ⟨⟨xs,xs[i],q,by simp [hlt]⟩,Pv (i+1),fun σ' H' p'=>⟨xs.length - (i+1),by omega,rfl,hlt,p'⟩,fun x H' y=>?_⟩
   obtain ⟨e,y⟩:=y
   subst e
   exact hs i x σ _ (y xs q) p
 · have e:i=xs.length:=by omega
   subst e
   exact .inl ⟨⟨xs,q,Nat.le_refl _⟩,hd σ H p⟩
end L2
namespace L2
open PySem PySem.Spec PyProof.Rows
noncomputable abbrev R2:=V->V->Hp->VK->Prop
noncomputable def OpR (X:Cx) (f:Value->Value->Sem Value) (r:R2):Prop:=
 ∀(pins:List (Addr × Obj)) (s:Shared) (σ:St) (H:Hp) (x y:V) (v u:Value) (Q:VK),Inv X pins σ H s->RelV x v->RelV y u->r x y H Q->
  wpAny (model X.prog X.w) X.A (f v u) (EP X pins σ Q) X.xe s
noncomputable def UnR (X:Cx) (f:Value->Sem Value) (r:V->Hp->VK->Prop):Prop:=
 ∀(pins:List (Addr × Obj)) (s:Shared) (σ:St) (H:Hp) (x:V) (v:Value) (Q:VK),Inv X pins σ H s->RelV x v->r x H Q->
  wpAny (model X.prog X.w) X.A (f v) (EP X pins σ Q) X.xe s
noncomputable def CallR (X:Cx) (f:Value) (r:List V->Hp->VK->Prop):Prop:=
 ∀(pins:List (Addr × Obj)) (s:Shared) (σ:St) (H:Hp) (xs:List V) (us:List Value) (Q:VK),Inv X pins σ H s->Vals xs us->r xs H Q->
  wpAny (model X.prog X.w) X.A (call f us) (EP X pins σ Q) X.xe s
noncomputable def TruR (X:Cx) (r:V->Hp->(Bool->Hp->Prop)->Prop):Prop:=
 ∀(pins:List (Addr × Obj)) (s:Shared) (σ:St) (H:Hp) (x:V) (v:Value) (Q:Bool->Hp->Prop),Inv X pins σ H s->RelV x v->r x H Q->
  wpAny (model X.prog X.w) X.A (truthy v) (TP X pins σ Q) X.xe s
noncomputable def tOp (r:R2) (ta tb:TE):TE:=fun σ H Q=>ta σ H fun x H1=>tb σ H1 fun y H2=>r x y H2 Q
noncomputable def tUn (r:V->Hp->VK->Prop) (ta:TE):TE:=fun σ H Q=>ta σ H fun x H1=>r x H1 Q
noncomputable def rI (C:Int->Int->Prop) (g:Int->Int->V):R2:=fun x y H Q=>∃i j,x=.int i/\y=.int j/\C i j/\Q (g i j) H
noncomputable def rI0 (g:Int->Int->V):R2:=fun x y H Q=>∃i j,x=.int i/\y=.int j/\Q (g i j) H
noncomputable def rU (g:Int->V):V->Hp->VK->Prop:=fun x H Q=>∃i,x=.int i/\Q (g i) H
section
variable {X:Cx} {a b c:Expr} {ta tb tc:TE} {pos:Pos}
theorem binT (ha:PE X a ta) (hb:PE X b tb) {pins:List (Addr × Obj)} {s:Shared} {σ:St} {H:Hp} {R:V->V->Hp->Prop} (I:Inv X pins σ H s)
  (h:ta σ H fun x H1=>tb σ H1 fun y H2=>R x y H2) {Q:Value->Shared->Prop} {f:Value->Value->Sem Value}
  (hf:∀v u s2 x y H2,Inv X pins σ H2 s2->RelV x v->RelV y u->R x y H2->wpAny (model X.prog X.w) X.A (f v u) Q X.xe s2) :
  wpAny (model X.prog X.w) X.A (eval a X.env) (fun v s₁=>wpAny (model X.prog X.w) X.A (eval b X.env) (fun u s₂=>wpAny (model X.prog X.w) X.A (f v u) Q X.xe s₂) X.xe s₁) X.xe s:=by
 refine thn (ha pins s σ H _ I h) fun v s1 ⟨x,H1,I1,r1,q1⟩=>?_
 refine thn (hb pins s1 σ H1 _ I1 q1) fun u s2 ⟨y,H2,I2,r2,q2⟩=>?_
 exact hf v u s2 x y H2 I2 r1 r2 q2
theorem pe_op {op:Operator} {r:R2} (ho:OpR X (binaryOp op) r) (ha:PE X a ta) (hb:PE X b tb):PE X (.BinOp a op b pos) (tOp r ta tb):=by
 intro pins s σ H Q I h
 exact wpAny_BinOp (binT ha hb I h fun v u s2 x y H2 I2 rx ry q=>ho pins s2 σ H2 x y v u Q I2 rx ry q)
theorem pe_un {op:UnaryOp} {r:V->Hp->VK->Prop} (ho:UnR X (unaryOp op) r) (ha:PE X a ta):PE X (.UnaryOp op a pos) (tUn r ta):=by
 intro pins s σ H Q I h
 exact UnaryOp_ (thn (ha pins s σ H _ I h) fun v s1 ⟨x,H1,I1,r1,q1⟩=>ho pins s1 σ H1 x v Q I1 r1 q1)
theorem opI {f:Value->Value->Sem Value} {C:Int->Int->Prop} {g:Int->Int->Int}
  (rule:∀(i j:Int) (t u:Tok) (s:Shared) (Q:Value->Shared->Prop) (E:Value->Shared->Prop),C i j->Q (.int (g i j) s.toks) {s with toks:=s.toks+1}->wpAny (model X.prog X.w) X.A (f (.int i t) (.int j u)) Q E s) :
  OpR X f (rI C fun i j=>.int (g i j)):=by
 intro pins s σ H x y v u Q I rx ry h
 obtain ⟨i,j,rfl,rfl,hc,q⟩:=h
 obtain ⟨t,rfl⟩:=rx
 obtain ⟨t',rfl⟩:=ry
 exact rule i j t t' s _ _ hc ⟨.int (g i j),H,I.tok _,⟨_,rfl⟩,q⟩
theorem opI0 {f:Value->Value->Sem Value} {g:Int->Int->Int}
  (rule:∀(i j:Int) (t u:Tok) (s:Shared) (Q:Value->Shared->Prop) (E:Value->Shared->Prop),Q (.int (g i j) s.toks) {s with toks:=s.toks+1}->wpAny (model X.prog X.w) X.A (f (.int i t) (.int j u)) Q E s) :
  OpR X f (rI0 fun i j=>.int (g i j)):=by
 intro pins s σ H x y v u Q I rx ry h
 obtain ⟨i,j,rfl,rfl,q⟩:=h
 obtain ⟨t,rfl⟩:=rx
 obtain ⟨t',rfl⟩:=ry
 exact rule i j t t' s _ _ ⟨.int (g i j),H,I.tok _,⟨_,rfl⟩,q⟩
theorem opB0 {f:Value->Value->Sem Value} {g:Int->Int->Bool}
  (rule:∀(i j:Int) (t u:Tok) (s:Shared) (Q:Value->Shared->Prop) (E:Value->Shared->Prop),Q (.bool (g i j)) s->wpAny (model X.prog X.w) X.A (f (.int i t) (.int j u)) Q E s) :
  OpR X f (rI0 fun i j=>.bl (g i j)):=by
 intro pins s σ H x y v u Q I rx ry h
 obtain ⟨i,j,rfl,rfl,q⟩:=h
 obtain ⟨t,rfl⟩:=rx
 obtain ⟨t',rfl⟩:=ry
 exact rule i j t t' s _ _ ⟨.bl (g i j),H,I,rfl,q⟩
noncomputable def CDiv (i j:Int):Prop:=0<j/\j<1073741824
noncomputable def CPow (i j:Int):Prop:=0<=j/\j<=1000000/\i.natAbs<2 ^ 64
noncomputable def CMul (i j:Int):Prop:=(-(2 ^ 64)<i/\i<2 ^ 64)\/(-(2 ^ 64)<j/\j<2 ^ 64)
theorem CMul.ok {i j:Int} (h:CMul i j):IntMulOk i j:=by
 rcases h with ⟨h1,h2⟩|⟨h1,h2⟩
 · exact .of_left (intBits_le_64 h1 h2)
 · exact .of_right (intBits_le_64 h1 h2)
theorem op_add:OpR X (binaryOp .Add) (rI0 fun i j=>.int (i+j)):=opI0 fun _ _ _ _ _ _ _ q=>add_int q
theorem op_sub:OpR X (binaryOp .Sub) (rI0 fun i j=>.int (i - j)):=opI0 fun _ _ _ _ _ _ _ q=>sub_int q
theorem op_mul:OpR X (binaryOp .Mult) (rI CMul fun i j=>.int (i * j)):=opI fun _ _ _ _ _ _ _ hc q=>mul_int q hc.ok
theorem op_fdiv:OpR X (binaryOp .FloorDiv) (rI CDiv fun i j=>.int (i / j)):=opI fun i j _ _ _ _ _ hc q=>by
 have h1:(0:Int)<j:=hc.1
 have h2:j<1073741824:=hc.2
 exact floordiv_int (by omega) (by rw [Int.fdiv_eq_ediv_of_nonneg i (by omega)];exact q) (.inl (PyProof.noPylong_small (by omega)))
theorem op_mod:OpR X (binaryOp .Mod) (rI (fun _ j=>0<j) fun i j=>.int (i % j)):=opI fun i j _ _ _ _ _ hc q=>by
 have h1:(0:Int)<j:=hc
 exact mod_int' (by omega) (by rw [Int.fmod_eq_emod_of_nonneg i (by omega)];exact q)
theorem op_pow:OpR X (binaryOp .Pow) (rI CPow fun i j=>.int (i ^ j.toNat)):=opI fun _ _ _ _ _ _ _ hc q=>pow_int_small hc.1 hc.2.1 hc.2.2 q
theorem unI {f:Value->Sem Value} {g:Int->Int}
  (rule:∀(i:Int) (t:Tok) (s:Shared) (Q:Value->Shared->Prop) (E:Value->Shared->Prop),Q (.int (g i) s.toks) {s with toks:=s.toks+1}->wpAny (model X.prog X.w) X.A (f (.int i t)) Q E s) :
  UnR X f (rU fun i=>.int (g i)):=by
 intro pins s σ H x v Q I rx h
 obtain ⟨i,rfl,q⟩:=h
 obtain ⟨t,rfl⟩:=rx
 exact rule i t s _ _ ⟨.int (g i),H,I.tok _,⟨_,rfl⟩,q⟩
theorem un_neg:UnR X (unaryOp .USub) (rU fun i=>.int (-i)):=unI fun _ _ _ _ _ q=>neg_int q
end
noncomputable def scal:V->V->Bool
 |.non,.non=>true|.non,.int _=>true|.int _,.non=>true|.non,.bl _=>true|.bl _,.non=>true|.non,.str _=>true|.str _,.non=>true
 |.int _,.int _=>true|.bl _,.bl _=>true|.str _,.str _=>true|.byt _,.byt _=>true
 |.int _,.str _=>true|.str _,.int _=>true|.bl _,.str _=>true|.str _,.bl _=>true
 |_,_=>false
noncomputable def rEq:R2:=fun x y H Q=>scal x y=true/\Q (.bl (decide (x=y))) H
noncomputable def rNe:R2:=fun x y H Q=>scal x y=true/\Q (.bl (!decide (x=y))) H
theorem dec_int {i j:Int}:decide (V.int i=V.int j)=(i == j):=by
 rw [Bool.eq_iff_iff]
 simp
theorem dec_bl {i j:Bool}:decide (V.bl i=V.bl j)=(i == j):=by
 rw [Bool.eq_iff_iff]
 simp
theorem dec_str {i j:Str}:decide (V.str i=V.str j)=(i == j):=by
 rw [Bool.eq_iff_iff]
 simp
theorem dec_byt {i j:Array UInt8}:decide (V.byt i=V.byt j)=(i.toList == j.toList):=by
 rw [Bool.eq_iff_iff]
 cases i
 cases j
 simp
section
variable {X:Cx} {a b c:Expr} {ta tb tc:TE} {pos:Pos}
theorem fin_bl {pins:List (Addr × Obj)} {σ:St} {H:Hp} {s:Shared} {Q:VK} {k k':Bool} (I:Inv X pins σ H s) (q:Q (.bl k) H) (e:k=k'):EP X pins σ Q (.bool k') s:=by
 subst e
 exact ⟨.bl k,H,I,rfl,q⟩
theorem op_eq:OpR X (compareOp .Eq) rEq:=by
 intro pins s σ H x y v u Q I rx ry h
 obtain ⟨hs,q⟩:=h
 cases x with
 | non =>
   cases rx
   cases y with
   |non=>cases ry;exact PySem.EqNone.eq_none_none (fin_bl I q (by simp))
   |bl j=>cases ry;exact PySem.EqNone.eq_none_bool (fin_bl I q (by simp))
   |int j=>obtain ⟨t',rfl⟩:=ry;exact PySem.EqNone.eq_none_int (fin_bl I q (by simp))
   |str j=>obtain ⟨t',rfl⟩:=ry;exact PySem.EqNone.eq_none_str (fin_bl I q (by simp))
   |_=>exact absurd (show false=true from hs) Bool.false_ne_true
 | bl i =>
   cases rx
   cases y with
   |non=>cases ry;exact PySem.EqNone.eq_bool_none (fin_bl I q (by simp))
   |bl j=>cases ry;exact eq_bool (fin_bl I q dec_bl)
   |str j=>obtain ⟨t',rfl⟩:=ry;exact PySem.EqMixed.eq_bool_str (fin_bl I q (by simp))
   |_=>exact absurd (show false=true from hs) Bool.false_ne_true
 | int i =>
   obtain ⟨t,rfl⟩:=rx
   cases y with
   |non=>cases ry;exact PySem.EqNone.eq_int_none (fin_bl I q (by simp))
   |int j=>obtain ⟨t',rfl⟩:=ry;exact eq_int (fin_bl I q dec_int)
   |str j=>obtain ⟨t',rfl⟩:=ry;exact PySem.EqMixed.eq_int_str (fin_bl I q (by simp))
   |_=>exact absurd (show false=true from hs) Bool.false_ne_true
 | str i =>
   obtain ⟨t,rfl⟩:=rx
   cases y with
   |non=>cases ry;exact PySem.EqNone.eq_str_none (fin_bl I q (by simp))
   |bl j=>cases ry;exact PySem.EqMixed.eq_str_bool (fin_bl I q (by simp))
   |int j=>obtain ⟨t',rfl⟩:=ry;exact PySem.EqMixed.eq_str_int (fin_bl I q (by simp))
   |str j=>obtain ⟨t',rfl⟩:=ry;exact eq_str (fin_bl I q dec_str)
   |_=>exact absurd (show false=true from hs) Bool.false_ne_true
 | byt i =>
   obtain ⟨t,rfl⟩:=rx
   cases y with
   |byt j=>obtain ⟨t',rfl⟩:=ry;exact PySem.W.eq_bytes (fin_bl I q dec_byt)
   |_=>exact absurd (show false=true from hs) Bool.false_ne_true
 |_=>cases y<;>exact absurd (show false=true from hs) Bool.false_ne_true
theorem op_ne:OpR X (compareOp .NotEq) rNe:=by
 intro pins s σ H x y v u Q I rx ry h
 obtain ⟨hs,q⟩:=h
 cases x with
 | non =>
   cases rx
   cases y with
   |non=>cases ry;exact PySem.EqNone.ne_none_none (fin_bl I q (by simp))
   |bl j=>cases ry;exact PySem.EqNone.ne_none_bool (fin_bl I q (by simp))
   |int j=>obtain ⟨t',rfl⟩:=ry;exact PySem.EqNone.ne_none_int (fin_bl I q (by simp))
   |str j=>obtain ⟨t',rfl⟩:=ry;exact PySem.EqNone.ne_none_str (fin_bl I q (by simp))
   |_=>exact absurd (show false=true from hs) Bool.false_ne_true
 | bl i =>
   cases rx
   cases y with
   |non=>cases ry;exact PySem.EqNone.ne_bool_none (fin_bl I q (by simp))
   |bl j=>cases ry;exact ne_bool (fin_bl I q (congrArg not dec_bl))
   |str j=>obtain ⟨t',rfl⟩:=ry;exact PySem.EqMixed.ne_bool_str (fin_bl I q (by simp))
   |_=>exact absurd (show false=true from hs) Bool.false_ne_true
 | int i =>
   obtain ⟨t,rfl⟩:=rx
   cases y with
   |non=>cases ry;exact PySem.EqNone.ne_int_none (fin_bl I q (by simp))
   |int j=>obtain ⟨t',rfl⟩:=ry;exact ne_int (fin_bl I q (congrArg not dec_int))
   |str j=>obtain ⟨t',rfl⟩:=ry;exact PySem.EqMixed.ne_int_str (fin_bl I q (by simp))
   |_=>exact absurd (show false=true from hs) Bool.false_ne_true
 | str i =>
   obtain ⟨t,rfl⟩:=rx
   cases y with
   |non=>cases ry;exact PySem.EqNone.ne_str_none (fin_bl I q (by simp))
   |bl j=>cases ry;exact PySem.EqMixed.ne_str_bool (fin_bl I q (by simp))
   |int j=>obtain ⟨t',rfl⟩:=ry;exact PySem.EqMixed.ne_str_int (fin_bl I q (by simp))
   |str j=>obtain ⟨t',rfl⟩:=ry;exact ne_str (fin_bl I q (congrArg not dec_str))
   |_=>exact absurd (show false=true from hs) Bool.false_ne_true
 | byt i =>
   obtain ⟨t,rfl⟩:=rx
   cases y with
   |byt j=>obtain ⟨t',rfl⟩:=ry;exact PySem.W.ne_bytes (fin_bl I q (congrArg not dec_byt))
   |_=>exact absurd (show false=true from hs) Bool.false_ne_true
 |_=>cases y<;>exact absurd (show false=true from hs) Bool.false_ne_true
theorem op_lt:OpR X (compareOp .Lt) (rI0 fun i j=>.bl (decide (i<j))):=opB0 fun _ _ _ _ _ _ _ q=>lt_int q
theorem op_le:OpR X (compareOp .LtE) (rI0 fun i j=>.bl (decide (i<=j))):=opB0 fun _ _ _ _ _ _ _ q=>le_int q
theorem op_gt:OpR X (compareOp .Gt) (rI0 fun i j=>.bl (decide (j<i))):=opB0 fun _ _ _ _ _ _ _ q=>gt_int q
theorem op_ge:OpR X (compareOp .GtE) (rI0 fun i j=>.bl (decide (j<=i))):=opB0 fun _ _ _ _ _ _ _ q=>ge_int q
theorem op_notN:OpR X (compareOp .IsNot) (fun x y H Q=>y=.non/\Q (.bl (!decide (x=.non))) H):=by
 intro pins s σ H x y v u Q I rx ry h
 obtain ⟨rfl,q⟩:=h
 cases ry
 refine isnot_none_gen (fin_bl I q ?_)
 cases x<;>first
  |(cases rx;rfl)
  |(obtain ⟨t,rfl⟩:=rx;rfl)
theorem nomark (b:Expr) {op:CmpOp} (h:op≠.In:=by decide) (h2:op≠.NotIn:=by decide):behindInMarks op b=false:=by
 have e1:(op == CmpOp.In)=false:=by cases op<;>first|rfl|exact absurd rfl h
 have e2:(op == CmpOp.NotIn)=false:=by cases op<;>first|rfl|exact absurd rfl h2
 cases b<;>simp [behindInMarks,e1,e2]
theorem pe_cmpR {op:CmpOp} {r:R2} (ho:OpR X (compareOp op) r) (ha:PE X a ta) (hb:PE X b tb) (hm:behindInMarks op b=false):PE X (.Compare a [op] [b] pos) (tOp r ta tb):=by
 intro pins s σ H Q I h
 exact wpAny_Compare1 (binT ha hb I h fun v u s2 x y H2 I2 rx ry q=>ho pins s2 σ H2 x y v u Q I2 rx ry q) hm
noncomputable def tTest (t:TE):TT:=fun σ H Q=>t σ H fun x H'=>∃k,x=.bl k/\Q k H'
theorem pt_cmpR {op:CmpOp} {r:R2} (ho:OpR X (compareOp op) r) (ha:PE X a ta) (hb:PE X b tb) (hm:behindInMarks op b=false):PT X (.Compare a [op] [b] pos) (tTest (tOp r ta tb)):=by
 intro pins s σ H Q I h
 refine wpAny_isTrue_Compare1 (thn (ha pins s σ H _ I h) fun v s1 ⟨x,H1,I1,r1,q1⟩=>thn (hb pins s1 σ H1 _ I1 q1) fun u s2 ⟨y,H2,I2,r2,q2⟩=>
  thn (ho pins s2 σ H2 x y v u _ I2 r1 r2 q2) fun c s3 ⟨z,H3,I3,r3,k,e,q3⟩=>?_) hm
 subst e
 cases r3
 exact wpAny_truthy_bool ⟨H3,I3,q3⟩
noncomputable def TruV (K:PySem.W.Frag) (x:V) (H:Hp) (k:Bool):Prop:=
 match x with
 |.non=>k=false
 |.bl b=>k=b
 |.int i=>k=(i != 0)
 |.str y=>y.length<=sizeLine/\k=((y.length:Int) != 0)
 |.byt y=>y.size<=sizeLine/\k=((y.size:Int) != 0)
 |.ref p=>(∃xs,SqL K H p xs/\k = !xs.isEmpty)\/(∃xs,SqT K H p xs/\k = !xs.isEmpty)\/∃kvs,H p=some (.dK kvs)/\k = !kvs.isEmpty
 |_=>False
theorem isEmpty_kv {κ:Type} {kvs:List (κ × V)} {vs:List (κ × Value)} (r:KV kvs vs):(!vs.isEmpty) = !kvs.isEmpty:=by
 cases r<;>rfl
theorem isEmpty_of {xs:List V} {its:List Value} (r:Vals xs its):(!its.toArray.isEmpty) = !xs.isEmpty:=by
 cases r<;>simp
theorem line63:(sizeLine:Nat)<2 ^ 63:=by rw [sizeLine_eq];decide
theorem tru_ok:TruR X (fun x H Q=>∃k,TruV X.K x H k/\Q k H):=by
 intro pins s σ H x v Q I rx h
 obtain ⟨k,e,q⟩:=h
 have hl:=line63
 have hs:sizeLine=16777216:=sizeLine_eq
 cases x with
 | non =>
   cases rx
   have e':k=false:=e
   subst e'
   exact truthy_none ⟨H,I,q⟩
 | bl b =>
   cases rx
   have e':k=b:=e
   subst e'
   exact wpAny_truthy_bool ⟨H,I,q⟩
 | int i =>
   obtain ⟨t,rfl⟩:=rx
   have e':k=(i != 0):=e
   subst e'
   exact PySem.P.truthy_int ⟨H,I,q⟩
 | str y =>
   obtain ⟨t,rfl⟩:=rx
   obtain ⟨hy,e'⟩:y.length<=sizeLine/\k=((y.length:Int) != 0):=e
   subst e'
   exact PySem.P.truthy_str (by omega) ⟨H,I.tok _,q⟩
 | byt y =>
   obtain ⟨t,rfl⟩:=rx
   obtain ⟨hy,e'⟩:y.size<=sizeLine/\k=((y.size:Int) != 0):=e
   subst e'
   exact PySem.W.truthy_bytes (by omega) ⟨H,I.tok _,q⟩
 | ref p =>
   cases rx
   have e':(∃xs,SqL X.K H p xs/\k = !xs.isEmpty)\/(∃xs,SqT X.K H p xs/\k = !xs.isEmpty)\/∃kvs,H p=some (.dK kvs)/\k = !kvs.isEmpty:=e
   rcases e' with ⟨xs,hx,e'⟩|⟨xs,hx,e'⟩|⟨kvs,hx,e'⟩
   · subst e'
     obtain ⟨its,r,pl,hz⟩:=I.list hx
     have hlen:=r.length
     exact wpAny_truthy_list pl.isList (by simp only [List.size_toArray];omega) ⟨H,I.tok _,by rw [isEmpty_of r];exact q⟩
   · subst e'
     obtain ⟨its,r,pl,hz⟩:=I.tuple hx
     have hlen:=r.length
     exact truthy_tuple pl (by simp only [List.size_toArray];omega) ⟨H,I.tok _,by rw [isEmpty_of r];exact q⟩
   · subst e'
     obtain ⟨hz,hS,vs,r,m⟩:kvs.length<=sizeLine/\(p == sysModules)=false/\∃vs,KV kvs vs/\s.heap.DictOf (mixKind X.prog X.w) p vs:=I.hok p _ hx
     have hlen:kvs.length=vs.length:=Paired.length r
     exact wpAny_truthy_dict hS m (by omega) ⟨H,I.tok _,by rw [isEmpty_kv r];exact q⟩
 |_=>exact (show False from e).elim
theorem pt_truth (ha:PE X a ta) (he:∀whole,isTrue a X.env whole=(do let v <-whole;standAt a.pos;holding [v] (truthy v))) :
  PT X a (fun σ H Q=>ta σ H fun x H'=>∃k,TruV X.K x H' k/\Q k H'):=by
 intro pins s σ H Q I h
 exact isTrue_plain (thn (ha pins s σ H _ I h) fun v s1 ⟨x,H1,I1,r1,q1⟩=>tru_ok pins s1 σ H1 x v Q I1 r1 q1) (he _)
theorem vals1 {x:V} {us:List Value} (r:Vals [x] us):∃u,us=[u]/\RelV x u:=by
 cases r with
 |cons r1 r2=>cases r2;exact ⟨_,rfl,r1⟩
theorem vals2 {x y:V} {us:List Value} (r:Vals [x,y] us):∃u w',us=[u,w']/\RelV x u/\RelV y w':=by
 cases r with
 | cons r1 r2 =>
   cases r2 with
   |cons r3 r4=>cases r4;exact ⟨_,_,rfl,r1,r3⟩
theorem call_abs:CallR X (.builtin "abs") (fun xs H Q=>∃i,xs=[.int i]/\Q (.int (if i<0 then -i else i)) H):=by
 intro pins s σ H xs us Q I r h
 obtain ⟨i,rfl,q⟩:=h
 obtain ⟨u,rfl,t,rfl⟩:=vals1 r
 exact call_abs_int fun u tk=>⟨.int (if i<0 then -i else i),H,I.tok _,⟨_,rfl⟩,q⟩
theorem call_max2 (hc:X.calm=true):CallR X (.builtin "max") (fun xs H Q=>∃i j,xs=[.int i,.int j]/\Q (.int (if j > i then j else i)) H):=by
 intro pins s σ H xs us Q I r h
 obtain ⟨i,j,rfl,q⟩:=h
 obtain ⟨u,w',rfl,⟨t,rfl⟩,⟨t',rfl⟩⟩:=vals2 r
 refine max_two_ints (I.ok.hd hc) fun h' tk k=>⟨_,H,I.kept k,?_,q⟩
 by_cases hj:j > i
 · rw [if_pos hj,if_pos hj];exact ⟨_,rfl⟩
 · rw [if_neg hj,if_neg hj];exact ⟨_,rfl⟩
theorem call_min2 (hc:X.calm=true):CallR X (.builtin "min") (fun xs H Q=>∃i j,xs=[.int i,.int j]/\Q (.int (if j<i then j else i)) H):=by
 intro pins s σ H xs us Q I r h
 obtain ⟨i,j,rfl,q⟩:=h
 obtain ⟨u,w',rfl,⟨t,rfl⟩,⟨t',rfl⟩⟩:=vals2 r
 refine min_two_ints (I.ok.hd hc) fun h' tk k=>⟨_,H,I.kept k,?_,q⟩
 by_cases hj:j<i
 · rw [if_pos hj,if_pos hj];exact ⟨_,rfl⟩
 · rw [if_neg hj,if_neg hj];exact ⟨_,rfl⟩
end
end L2
namespace L2
open PySem PySem.Spec PyProof.Rows
structure ObjM (h:Heap) (x dx C:Addr) (mA:Str->Option Value):Prop where
 obj:h.get? x=some (PySem.W.instObj C dx)
 ns:h.Ns1 dx mA
 ne:dx≠x
theorem lookIn_ns {h:Heap} {dx:Addr} {mA:Str->Option Value} (n:h.Ns1 dx mA):∃od,h.get? dx=some od/\∀name,PySem.W.lookIn name od=some (mA name):=by
 obtain ⟨o,es,ep,ho,hd,hk,_,hm⟩:=n
 refine ⟨o,ho,fun name=>?_⟩
 have e:=hm name
 unfold nsFind findBy at e
 rw [<-Array.find?_toList] at e
 unfold PySem.W.lookIn
 rw [hd]
 dsimp only
 split
 · rename_i y q
   rw [q] at e
   exact congrArg some e
 · rename_i q
   rw [q] at e
   have a:es.toList.any (·.refKey)=false:=by
    rw [List.any_eq_false]
    intro y hy
    obtain ⟨z,t,hkey⟩:=hk y (Array.mem_toList_iff.mp hy)
    simp [DictEntry.refKey,hkey]
   have a':¬es.toList.any (·.refKey)=true:=by rw [a];exact Bool.false_ne_true
   rw [if_neg a']
   exact congrArg some e
theorem ObjM.look {h:Heap} {x dx C:Addr} {mA:Str->Option Value} (I:ObjM h x dx C mA):∃od,PySem.W.InstAt h x (PySem.W.instObj C dx) C (some od)/\∀name,PySem.W.lookIn name od=some (mA name):=
 let ⟨od,ho,hl⟩:=lookIn_ns I.ns
 ⟨od,⟨I.obj,rfl,rfl,ho⟩,hl⟩
section
variable {prog:Program} {w:World} {A:Around} {E:Value->Shared->Prop} {s:Shared} {K:PySem.W.Frag} {x dx C f:Addr} {mA:Str->Option Value} {name:Str} {v:Value}
theorem get_map {expr:Bool} {Q:Value->Shared->Prop} (X:K.In s.heap) (I:ObjM s.heap x dx C mA) (hg:PySem.W.plainGet K C name=true) (hh:PySem.W.hasDictIn K C=true)
  (ha:PySem.W.findIn K (.ref C) name=some none) (hv:mA name=some v) (hv':PySem.W.handedIn v=true) (h:Q v {s with toks:=s.toks+1}) :
  wpAny (model prog w) A (getAttr (.ref x) name expr) Q E s:=by
 obtain ⟨od,J,hl⟩:=I.look
 exact PySem.W.get_value X J (PySem.W.plainGet_of hg).1 (PySem.W.findObj_own hh ha rfl (by rw [hl,hv])) hv' h
theorem get_meth {pl:Sem Bool} {Q:Value × List Value->Shared->Prop} (X:K.In s.heap) (I:ObjM s.heap x dx C mA) (hg:PySem.W.plainGet K C name=true)
  (hf:PySem.W.findIn K (.ref C) name=some (some (.ref f))) (ht:PySem.W.isFn K (.ref f)=true) (hv:mA name=none) (h:Q (.ref f,[.ref x]) s) :
  wpAny (model prog w) A (getMethod (.ref x) name pl) Q E s:=by
 obtain ⟨od,J,hl⟩:=I.look
 exact PySem.W.method_fn X J (PySem.W.plainGet_of hg).1 (PySem.W.plainGet_of hg).2 hf (beq_iff_eq.mp ht) (by show (PySem.W.lookIn name od).map (·.isSome)=some false;rw [hl,hv];rfl) h
theorem set_map {ns:List Str} {Q:Unit->Shared->Prop} (X:K.In s.heap) (I:ObjM s.heap x dx C mA)
  (hs:PySem.W.findIn K (.ref C) "__setattr__"=some (some (.builtin "object.__setattr__"))) (hp:PySem.W.plainOver K C=true) (ht:PySem.W.takerIn K C name=some none) (hh:PySem.W.hasDictIn K C=true)
  (hw:PySem.Within mA ns) (hsz:ns.length<=sizeLine)
  (h:∀h',ObjM h' x dx C (fun y=>if y=name then some v else mA y)->Heap.SameBut dx s.heap h'->Q () {s with heap:=h',toks:=s.toks+2}) :
  wpAny (model prog w) A (setAttr (.ref x) name v) Q E s:=by
 obtain ⟨od,J,hl⟩:=I.look
 refine PySem.W.set_plain X J hs (PySem.W.osa_open (s:={s with toks:=s.toks+1}) (r:=none) X J hp ht fun b=>?_)
 obtain ⟨cd,hc,hd'⟩:=PySem.W.any_some hh
 have hx:s.heap.get? x=some ⟨.ref C,some dx,.plain,#[]⟩:=I.obj
 refine wpAny_bind (wpAny_pure (wpAny_bind (wpAny_bind (wpAny_loadPart hx (wpAny_bind (PySem.W.Looks.here (s:={s with toks:=s.toks+1}) (PySem.W.looks_clsIn X hc) ?_))))))
 rw [hd']
 refine wpAny_pure (a:=some dx) (wpAny_bind (wpAny_pure (wpAny_bind ?_)))
 refine wpAny_nsSet1 (s:={s with toks:=s.toks+1}) I.ns fun h' hn2 hs2=>?_
 obtain ⟨oD,esD,epD,hoD,hdD,hcD⟩:=hn2.count (PySem.Within.cons name v hw)
 refine wpAny_bind (wpAny_lookBehind hoD (by rw [hdD];exact pastItsLine_dict (Nat.le_trans hcD (by rw [List.length_cons];omega))) ?_)
 exact wpAny_pure (h _ ⟨(hs2.2 _ (Ne.symm I.ne)).trans I.obj,hn2,I.ne⟩ hs2)
theorem make_map {R:Result->Shared->Prop} {vs:List Value} {kw:List (Str × Value)} (X:K.In s.heap) (hm:PySem.W.makesIn K C=true)
  (hi:PySem.W.findIn K (.ref C) "__init__"=some (some (.ref f))) (hf:PySem.W.typeIn K (.ref f)=some (.type "function"))
  (h:codeAny (model prog w) (A.under (.builtin "type.__call__" ⟨.ref C::vs,kw⟩)) (.call (.ref f) ⟨.ref (s.heap.objs.size+1)::vs,kw⟩) (PySem.W.InitBack (s.heap.objs.size+1) R)
   {s with heap:=(s.heap.push PySem.W.emptyDict).push (PySem.W.instObj C s.heap.objs.size)}) :
  codeAny (model prog w) A (.call (.ref C) ⟨vs,kw⟩) R s:=by
 obtain ⟨hh,g,d,t,os⟩:=s
 exact PySem.W.make_core (PySem.W.makes_of X hm) (PySem.W.looks_findIn X hi) (fun self=>PySem.W.bind_fn X self hf) (.inl rfl) h
end
noncomputable def putF (f:Str) (v:V):List (Str × V)->List (Str × V)
 | []=>[(f,v)]
 |(g,x)::r=>if g=f then (g,v)::r else (g,x)::putF f v r
theorem lookup_putF (f g:Str) (v:V):∀fs:List (Str × V),(putF f v fs).lookup g=if g=f then some v else fs.lookup g
 | [] => by
   show List.lookup g [(f,v)]=_
   by_cases h:g=f
   · have hb:(g == f)=true:=beq_iff_eq.mpr h
     simp only [List.lookup,hb,if_pos h]
   · have hb:(g == f)=false:=beq_eq_false_iff_ne.mpr h
     simp only [List.lookup,hb,if_neg h]
 | (k, x) :: r => by
   have ih:=lookup_putF f g v r
   rw [show putF f v ((k,x)::r)=(if k=f then (k,v)::r else (k,x)::putF f v r) from rfl]
   by_cases hk:k=f
   · rw [if_pos hk]
     by_cases h:g=k
     · have hb:(g == k)=true:=beq_iff_eq.mpr h
       simp only [List.lookup,hb,if_pos (h.trans hk)]
     · have hb:(g == k)=false:=beq_eq_false_iff_ne.mpr h
       simp only [List.lookup,hb,if_neg (fun e:g=f=>h (e.trans hk.symm))]
   · rw [if_neg hk]
     by_cases h:g=k
     · have hb:(g == k)=true:=beq_iff_eq.mpr h
       simp only [List.lookup,hb,if_neg (fun e:g=f=>hk (h.symm.trans e))]
     · have hb:(g == k)=false:=beq_eq_false_iff_ne.mpr h
       simp only [List.lookup,hb]
       exact ih
theorem keys_putF (f:Str) (v:V):∀fs:List (Str × V),f∈(putF f v fs).map (·.1)/\∀g,g∈fs.map (·.1)->g∈(putF f v fs).map (·.1)
 | []=>⟨by simp [putF],fun g h=>by simp at h⟩
 | (k, x) :: r => by
   obtain ⟨i1,i2⟩:=keys_putF f v r
   rw [show putF f v ((k,x)::r)=(if k=f then (k,v)::r else (k,x)::putF f v r) from rfl]
   by_cases hk:k=f
   · rw [if_pos hk]
     subst hk
     exact ⟨by simp,fun g h=>by simpa using h⟩
   · rw [if_neg hk]
     refine ⟨?_,fun g h=>?_⟩
     · rw [List.map_cons]
       exact List.mem_cons_of_mem _ i1
     · rw [List.map_cons] at h⊢
       rcases List.mem_cons.mp h with e|e
       · exact List.mem_cons.mpr (.inl e)
       · exact List.mem_cons_of_mem _ (i2 g e)
theorem length_putF (f:Str) (v:V):∀fs:List (Str × V),(putF f v fs).length<=fs.length+1
 | []=>by simp [putF]
 | (k, x) :: r => by
   have ih:=length_putF f v r
   rw [show putF f v ((k,x)::r)=(if k=f then (k,v)::r else (k,x)::putF f v r) from rfl]
   by_cases hk:k=f
   · rw [if_pos hk,List.length_cons,List.length_cons];omega
   · rw [if_neg hk,List.length_cons,List.length_cons];omega
theorem RelO.some_of {v:V} {o:Option Value} (r:RelO (some v) o):∃u,o=some u/\RelV v u:=by
 cases o with
 |none=>exact (show False from r).elim
 |some u=>exact ⟨u,rfl,r⟩
theorem RelO.none_of {o:Option Value} (r:RelO none o):o=none:=by
 cases o with
 |none=>rfl
 |some u=>exact (show False from r).elim
theorem handed_of {v:V} {u:Value} (r:RelV v u):PySem.W.handedIn u=true:=by
 cases v with
 |non=>cases (show u=Value.none from r);rfl
 |bl b=>cases (show u=Value.bool b from r);rfl
 |int i=>obtain ⟨t,e⟩:=(show ∃t,u=Value.int i t from r);cases e;rfl
 |str x=>obtain ⟨t,e⟩:=(show ∃t,u=Value.str x t from r);cases e;rfl
 |byt b=>obtain ⟨t,e⟩:=(show ∃t,u=Value.bytes b t from r);cases e;rfl
 |flt b=>obtain ⟨t,e⟩:=(show ∃t,u=Value.float b t from r);cases e;rfl
 |ref a=>cases (show u=Value.ref a from r);rfl
 |ty n=>cases (show u=Value.type n from r);rfl
section
variable {P:Program} {w:World} {H H':Hp} {h h':Heap} {a C dx:Addr} {fs fs':List (Str × V)}
theorem ins_get (hok:HOk P w H h) (e:H a=some (.ins C dx fs)):∃mA,ObjM h a dx C mA/\(∀f,RelO (fs.lookup f) (mA f))/\PySem.Within mA (fs.map (·.1))/\fs.length<=1000/\H dx=some (.own a):=by
 obtain ⟨d,z,ne,ob,mA,n,r,q⟩:=(show ObjOk P w H h a (.ins C dx fs) from hok a _ e)
 exact ⟨mA,⟨ob,n,ne⟩,r,q,z,d⟩
end
structure Cls (K:PySem.W.Frag) (C:Addr):Prop where
 pg:PySem.W.plainGet K C Str.empty=true
 hd:PySem.W.hasDictIn K C=true
 po:PySem.W.plainOver K C=true
 sa:PySem.W.findIn K (.ref C) "__setattr__"=some (some (.builtin "object.__setattr__"))
theorem Cls.get {K:PySem.W.Frag} {C:Addr} (c:Cls K C) (f:Str):PySem.W.plainGet K C f=true:=c.pg
noncomputable def NoAttr (K:PySem.W.Frag) (C:Addr) (f:Str):Prop:=PySem.W.findIn K (.ref C) f=some none
theorem NoAttr.taker {K:PySem.W.Frag} {C:Addr} {f:Str} (n:NoAttr K C f):PySem.W.takerIn K C f=some none:=by
 unfold PySem.W.takerIn
 rw [show PySem.W.findIn K (.ref C) f=some none from n]
 rfl
structure Con (K:PySem.W.Frag) (C:Addr) (f:Str) (v:V) (u:Value):Prop where
 at_:PySem.W.findIn K (.ref C) f=some (some u)
 rel:RelV v u
 get:PySem.W.specialIn K u "__get__"=some none
 cp:PySem.W.copiedNames.contains f=false
structure Meth (K:PySem.W.Frag) (C:Addr) (m:Str) (f:Addr):Prop where
 at_:PySem.W.findIn K (.ref C) m=some (some (.ref f))
 fn:PySem.W.isFn K (.ref f)=true
 kp:PySem.W.keepIn K (.ref f)=true
section
variable {X:Cx} {pins:List (Addr × Obj)} {σ:St} {H:Hp} {s:Shared} {a C dx:Addr} {fs:List (Str × V)} {f:Str} {v:V} {A:Around} {E:Value->Shared->Prop}
theorem getattr_ok {b:Bool} {Q:Value->Shared->Prop} (I:Inv X pins σ H s) (e:H a=some (.ins C dx fs)) (c:Cls X.K C) (n:NoAttr X.K C f) (l:fs.lookup f=some v)
  (h:∀u s',Inv X pins σ H s'->RelV v u->Q u s'):wpAny (model X.prog X.w) A (getAttr (.ref a) f b) Q E s:=by
 obtain ⟨mA,O,r,_,_,_⟩:=ins_get I.hok e
 obtain ⟨u,hu,ru⟩:=RelO.some_of (v:=v) (o:=mA f) (by rw [<-l];exact r f)
 exact get_map I.kIn O (c.get f) c.hd n hu (handed_of ru) (h u _ (I.tok _) ru)
theorem getmeth_ok {m:Str} {g:Addr} {pl:Sem Bool} {Q:Value × List Value->Shared->Prop} (I:Inv X pins σ H s) (e:H a=some (.ins C dx fs)) (c:Cls X.K C) (k:Meth X.K C m g) (l:fs.lookup m=none)
  (h:Q (.ref g,[.ref a]) s):wpAny (model X.prog X.w) A (getMethod (.ref a) m pl) Q E s:=by
 obtain ⟨mA,O,r,_,_,_⟩:=ins_get I.hok e
 have hn:mA m=none:=RelO.none_of (by rw [<-l];exact r m)
 exact get_meth I.kIn O (c.get m) k.at_ k.fn hn h
theorem setattr_ok {y:V} {u:Value} {Q:Unit->Shared->Prop} (I:Inv X pins σ H s) (e:H a=some (.ins C dx fs)) (c:Cls X.K C) (n:NoAttr X.K C f) (hl:fs.length<1000) (ry:RelV y u)
  (h:∀s',Inv X pins σ (upd H a (.ins C dx (putF f y fs))) s'->Q () s'):wpAny (model X.prog X.w) A (setAttr (.ref a) f u) Q E s:=by
 obtain ⟨mA,O,r,wi,_,ho⟩:=ins_get I.hok e
 have hz:(fs.map (·.1)).length<=sizeLine:=by rw [List.length_map,sizeLine_eq];omega
 refine set_map I.kIn O c.sa c.po n.taker c.hd wi hz fun h' O' sb=>h _ ?_
 have hd:∃o,h'.get? dx=some o:=let ⟨o,_,_,e',_⟩:=O'.ns;⟨o,e'⟩
 refine I.write (x:=a) (e:=dx) (by rw [e];exact True.intro) (.inr ho) (fun b q hb z=>(sb.2 b hb).trans z) hd ?_
 refine ⟨by rw [upd_ne O.ne];exact ho,?_,O.ne,O'.obj,_,O'.ns,fun g=>?_,fun g hg=>?_⟩
 · have:=length_putF f y fs;omega
 · show RelO ((putF f y fs).lookup g) (if g=f then some u else mA g)
   rw [lookup_putF]
   by_cases q:g=f
   · rw [if_pos q,if_pos q];exact ry
   · rw [if_neg q,if_neg q];exact r g
 · by_cases q:g=f
   · rw [q];exact (keys_putF f y fs).1
   · refine (keys_putF f y fs).2 g (wi g fun z=>hg ?_)
     show (if g=f then some u else mA g)=none
     rw [if_neg q];exact z
theorem Inv.made (I:Inv X pins σ H s):Inv X pins σ (upd (upd H s.heap.objs.size (.own (s.heap.objs.size+1))) (s.heap.objs.size+1) (.ins C s.heap.objs.size []))
  {s with heap:=(s.heap.push PySem.W.emptyDict).push (PySem.W.instObj C s.heap.objs.size)}:=by
 have e1:(s.heap.push PySem.W.emptyDict).get? s.heap.objs.size=some PySem.W.emptyDict:=Heap.get?_push_size s.heap rfl
 have e2:((s.heap.push PySem.W.emptyDict).push (PySem.W.instObj C s.heap.objs.size)).get? (s.heap.objs.size+1)=some (PySem.W.instObj C s.heap.objs.size):=by
  have:=Heap.get?_push_size (s.heap.push PySem.W.emptyDict) (o:=PySem.W.instObj C s.heap.objs.size) rfl
  rwa [Heap.size_push] at this
 have e3:(s.heap.push PySem.W.emptyDict).Ns s.heap.objs.size (fun _=>none):=⟨PySem.W.emptyDict,#[],_,e1,rfl,(fun e he=>absurd he (by simp)),fun _=>rfl⟩
 have I1:=I.laid (a:=s.heap.objs.size) (o:=.own (s.heap.objs.size+1)) (h':=s.heap.push PySem.W.emptyDict) (t':=s.toks) (fun b u q=>Heap.get?_push_of_some _ q) (Nat.le_refl _) ⟨_,e1⟩
 refine I1.laid (a:=s.heap.objs.size+1) (o:=.ins C s.heap.objs.size []) (t':=s.toks) (fun b u q=>Heap.get?_push_of_some _ q) (Nat.le_of_eq (Heap.size_push _ _)) ?_
 have ne:s.heap.objs.size≠s.heap.objs.size+1:=Nat.ne_of_lt (Nat.lt_succ_self _)
 refine ⟨by rw [upd_ne ne,upd_same],Nat.zero_le _,ne,e2,fun _=>none,(Heap.Ns1.of_empty e3).at fun o q=>Heap.get?_push_of_some _ q,fun _=>True.intro,fun y hy=>absurd rfl hy⟩
theorem attr_of {prog:Program} {w:World} {env:Env} {e:Expr} {f:Str} {pos:Pos} {s:Shared} {Q:Value->Shared->Prop} (hb:attributeBase e f env (eval e env)=eval e env)
  (h:wpAny (model prog w) A (eval e env) (fun o s₁=>wpAny (model prog w) A (getAttr o f true) Q E s₁) E s):wpAny (model prog w) A (eval (.Attribute e f pos) env) Q E s:=
 Attribute_any_ h (by rw [arm_eval_Attribute,hb])
end
noncomputable def tFld (K:PySem.W.Frag) (ta:TE) (f:Str):TE:=fun σ H Q=>ta σ H fun x H1=>∃a C dx fs v,x=.ref a/\H1 a=some (.ins C dx fs)/\Cls K C/\NoAttr K C f/\fs.lookup f=some v/\Q v H1
noncomputable def sFld (K:PySem.W.Frag) (ta tv:TE) (f:Str):TS:=fun D σ H=>tv σ H fun y H1=>ta σ H1 fun x H2=>∃a C dx fs,x=.ref a/\H2 a=some (.ins C dx fs)/\Cls K C/\NoAttr K C f/\fs.length<1000/\
 D.nx σ (upd H2 a (.ins C dx (putF f y fs)))
section
variable {X:Cx} {o e value:Expr} {f:Str} {pos pos' tpos:Pos} {ta tv:TE}
theorem pe_fld (he:PE X e ta) (hb:attributeBase e f X.env (eval e X.env)=eval e X.env):PE X (.Attribute e f pos) (tFld X.K ta f):=by
 intro pins s σ H Q I h
 refine attr_of hb (thn (he pins s σ H _ I h) fun u s1 ⟨x,H1,I1,rx,a,C,dx,fs,v,ex,ea,c,n,l,q⟩=>?_)
 subst ex
 obtain rfl:u=Value.ref a:=rx
 exact getattr_ok I1 ea c n l fun u' s2 I2 ru=>⟨v,H1,I2,ru,q⟩
theorem ps_fld (ha:PE X o ta) (hv:PE X value tv) (hs:swapsWith value (some (.Attribute o f pos')) pos.line X.env=pure false):PS X (.Assign [.Attribute o f pos'] value pos) (sFld X.K ta tv f):=by
 intro pins s σ H D I h
 refine plainObj_wpAny_Assign_Attribute (thn (hv pins s σ H _ I h) fun u s1 ⟨y,H1,I1,ry,q⟩=>thn (ha pins s1 σ H1 _ I1 q) fun ov s2 ⟨x,H2,I2,rx,a,C,dx,fs,ex,ea,c,n,l,q2⟩=>?_) hs
 subst ex
 obtain rfl:ov=Value.ref a:=rx
 exact setattr_ok I2 ea c n l ry fun s3 I3=>⟨σ,_,I3,q2⟩
end
section
variable {X:Cx} {pins:List (Addr × Obj)} {σ:St} {H:Hp} {s:Shared} {A:Around} {E:Value->Shared->Prop} {Q:Value->Shared->Prop} {c:Value} {b:Bool}
inductive TyOf (K:PySem.W.Frag) (H:Hp):V->Value->Prop where
 |non:TyOf K H .non (.type "NoneType")
 |bl (x:Bool):TyOf K H (.bl x) (.type "bool")
 |int (i:Int):TyOf K H (.int i) (.type "int")
 |str (x:Str):TyOf K H (.str x) (.type "str")
 |flt (x:UInt64):TyOf K H (.flt x) (.type "float")
 |lst {a:Addr} {xs:List V} (e:H a=some (.lst xs)):TyOf K H (.ref a) (.type "list")
 |frz {a:Addr} {o:Obj} {xs:List V} (e:H a=some (.frz o (.lst xs))):TyOf K H (.ref a) (.type "list")
 |tup {a:Addr} {xs:List V} (e:H a=some (.tup xs)):TyOf K H (.ref a) (.type "tuple")
 |dK {a:Addr} {kvs:List (Key × V)} (e:H a=some (.dK kvs)):TyOf K H (.ref a) (.type "dict")
 |dT {a:Addr} {kvs:List (List Key × V)} (e:H a=some (.dT kvs)):TyOf K H (.ref a) (.type "dict")
 |ins {a C dx:Addr} {fs:List (Str × V)} (e:H a=some (.ins C dx fs)) (cl:Cls K C) (ha:PySem.W.findIn K (.ref C) "__class__"=some (some (.builtin "object.__class__")))
  (hn:PySem.W.specialIn K (.builtin "object.__class__") "__get__"=some (some (.builtin "getset_descriptor.__get__"))) (htk:PySem.W.takesIn K (.builtin "object.__class__")=some true)
  (hm:PySem.W.mroIn K C (.type "object")=some true):TyOf K H (.ref a) (.ref C)
theorem isinst_ok {x:V} {u t:Value} (I:Inv X pins σ H s) (rx:RelV x u) (ty:TyOf X.K H x t) (e:PySem.W.kitOne X.K t c=some b) (h:∀tk,Q (.bool b) {s with toks:=tk}) :
  wpAny (model X.prog X.w) A (call (.builtin "isinstance") [u,c]) Q E s:=by
 cases ty with
 |non=>cases (show u=Value.none from rx);exact PySem.W.kia_one PySem.W.kitx_none I.kIn True.intro e (fun z=>nomatch z) h
 |bl y=>cases (show u=Value.bool y from rx);exact PySem.W.kia_one PySem.W.kitx_bool I.kIn True.intro e (fun z=>nomatch z) h
 |int i=>obtain ⟨t,q⟩:=(show ∃t,u=Value.int i t from rx);cases q;exact PySem.W.kia_one PySem.W.kitx_int I.kIn True.intro e (fun z=>nomatch z) h
 |str y=>obtain ⟨t,q⟩:=(show ∃t,u=Value.str y t from rx);cases q;exact PySem.W.kia_one PySem.W.kitx_str I.kIn True.intro e (fun z=>nomatch z) h
 |flt y=>obtain ⟨t,q⟩:=(show ∃t,u=Value.float y t from rx);cases q;exact PySem.W.kia_one PySem.W.kitx_float I.kIn True.intro e (fun z=>nomatch z) h
 | @lst a xs ea =>
   cases (show u=Value.ref a from rx)
   obtain ⟨_,_,n,_,h1⟩:=(show ObjOk X.prog X.w H s.heap a (.lst xs) from I.hok a _ ea)
   exact PySem.W.kia_one PySem.W.kitx_list I.kIn ⟨_,h1,rfl⟩ e (fun z=>nomatch z) h
 | @frz a ob xs ea =>
   cases (show u=Value.ref a from rx)
   obtain ⟨_,_,_,n,_,h1⟩:=(show ObjOk X.prog X.w H s.heap a (.frz ob (.lst xs)) from I.hok a _ ea)
   exact PySem.W.kia_one PySem.W.kitx_list I.kIn ⟨_,h1,rfl⟩ e (fun z=>nomatch z) h
 | @tup a xs ea =>
   cases (show u=Value.ref a from rx)
   obtain ⟨_,_,_,p⟩:=(show ObjOk X.prog X.w H s.heap a (.tup xs) from I.hok a _ ea)
   obtain ⟨o,h1,h2,_⟩:=p
   exact PySem.W.kia_one PySem.W.kitx_tuple I.kIn ⟨o,h1,h2⟩ e (fun z=>nomatch z) h
 | @dK a kvs ea =>
   cases (show u=Value.ref a from rx)
   obtain ⟨_,_,vs,_,p⟩:=(show ObjOk X.prog X.w H s.heap a (.dK kvs) from I.hok a _ ea)
   obtain ⟨o,es,ep,h1,h2,_⟩:=p
   exact PySem.W.kia_one PySem.W.kitx_dict I.kIn ⟨o,h1,h2.1⟩ e (fun z=>nomatch z) h
 | @dT a kvs ea =>
   cases (show u=Value.ref a from rx)
   obtain ⟨_,_,xs,_,o,es,ep,h1,h2,_⟩:=(show ObjOk X.prog X.w H s.heap a (.dT kvs) from I.hok a _ ea)
   exact PySem.W.kia_one PySem.W.kitx_dict I.kIn ⟨o,h1,h2.1⟩ e (fun z=>nomatch z) h
 | @ins a C dx fs ea cl ha hn htk hm =>
   cases (show u=Value.ref a from rx)
   obtain ⟨mA,O,_⟩:=ins_get I.hok ea
   obtain ⟨od,J,_⟩:=O.look
   exact PySem.W.kia_one (PySem.W.kitx_own (cl.get _) cl.hd ha hn htk hm) I.kIn J e (fun z=>nomatch z) h
end
end L2
namespace L2
open PySem PySem.Spec PyProof.Rows
structure Room (k:Nat) (A:Around):Prop where
 hd:A.handled=none
 dp:A.depth+3 * k+5<recursionLimit
 un:A.units+16 * k+200<cLine
theorem Room.mono {j k:Nat} {A:Around} (r:Room k A) (h:j<=k):Room j A:=⟨r.hd,by have:=r.dp;omega,by have:=r.un;omega⟩
theorem Room.deeper {k:Nat} {A:Around} (r:Room (k+1) A) (env:Env):Room k (A.deeper env):=
 ⟨r.hd,by have:=r.dp;show A.depth+1+3 * k+5<_;omega,by have:=r.un;show A.units+3+16 * k+200<_;omega⟩
theorem Room.in1 {k:Nat} {A:Around} (r:Room (k+1) A):Room k A.in1:=
 ⟨r.hd,by have:=r.dp;show A.depth+3 * k+5<_;omega,by have:=r.un;show A.units+1+16 * k+200<_;omega⟩
theorem make_depth {A:Around} {C:Addr} {us:List Value} {kw:List (Str × Value)}:(A.under (.builtin "type.__call__" ⟨.ref C::us,kw⟩)).depth=A.depth+1:=by
 first|rfl|simp [Around.under,Code.weight,Code.isCreation,Code.isGuard,Code.isCaller,Code.frames,Code.isFrame,guardIds]
theorem make_units {A:Around} {C:Addr} {us:List Value} {kw:List (Str × Value)}:(A.under (.builtin "type.__call__" ⟨.ref C::us,kw⟩)).units=A.units+1:=by
 first|rfl|simp [Around.under,Code.cUnits,Code.frames,Code.isFrame]
theorem Room.make {k:Nat} {A:Around} (r:Room (k+1) A) (C:Addr) (us:List Value) (kw:List (Str × Value)):Room k (A.under (.builtin "type.__call__" ⟨.ref C::us,kw⟩)):=
 ⟨r.hd,by have:=r.dp;rw [make_depth];omega,by have:=r.un;rw [make_units];omega⟩
theorem Room.depth {k:Nat} {A:Around} (r:Room k A):A.depth<recursionLimit:=by have:=r.dp;omega
noncomputable def tNil:TA:=fun _ H Q=>Q [] H
noncomputable def tCons (ta:TE) (tr:TA):TA:=fun σ H Q=>ta σ H fun x H1=>tr σ H1 fun xs H2=>Q (x::xs) H2
section
variable {X:Cx} {e:Expr} {es:List Expr} {te:TE} {t:TA} {pos:Pos}
theorem pa_nil:PA X [] tNil:=fun _ _ _ _ H Q I h=>Calls.spliced_nil ⟨[],H,I,.nil,h⟩
theorem pa_cons (ha:PE X e te) (hr:PA X es t) (hs:starEach (e::es) X.env=(false,eval e X.env)::starEach es X.env:=by rfl):PA X (e::es) (tCons te t):=by
 intro pos pins s σ H Q I h
 rw [hs]
 show wpAny _ _ (spliced ((false,eval e X.env)::backTo pos (starEach es X.env))) _ _ s
 refine Calls.spliced_cons (thn (ha pins s σ H _ I h) fun u s1 ⟨x,H1,I1,r1,q1⟩=>?_)
 exact thn (hr pos pins s1 σ H1 _ I1 q1) fun us s2 ⟨xs,H2,I2,r2,q2⟩=>⟨x::xs,H2,I2,.cons r1 r2,q2⟩
noncomputable def tTup (t:TA):TE:=fun σ H Q=>t σ H fun xs H1=>xs.length<=sizeLine/\∀p,H1 p=none->Q (.ref p) (upd H1 p (.tup xs))
noncomputable def tLst (t:TA):TE:=fun σ H Q=>t σ H fun xs H1=>xs.length<=sizeLine/\∀p,H1 p=none->Q (.ref p) (upd H1 p (.lst xs))
theorem pe_tup {x1} (h:PA X es t):PE X (.Tuple es x1 pos) (tTup t):=by
 intro pins s σ H Q I hq
 refine wpAny_Tuple_spliced (thn (h pos pins s σ H _ I hq) fun us s1 ⟨xs,H1,I1,r,z,q⟩=>⟨by rw [<-r.length];exact z,?_⟩)
 have hf:H1 s1.heap.objs.size=none:=I1.hok.fresh (Nat.le_refl _)
 refine ⟨.ref s1.heap.objs.size,upd H1 s1.heap.objs.size (.tup xs),I1.laid (t':=s1.toks) (fun b u e=>Heap.get?_push_of_some _ e) (Nat.le_refl _) ?_,rfl,q _ hf⟩
 exact ⟨z,us,r,⟨_,Heap.get?_push_size _ rfl,rfl,_,rfl⟩⟩
theorem pe_lst (h:PA X es t):PE X (.List es pos) (tLst t):=by
 intro pins s σ H Q I hq
 refine wpAny_List_spliced (thn (h pos pins s σ H _ I hq) fun us s1 ⟨xs,H1,I1,r,z,q⟩=>⟨by rw [<-r.length];exact z,?_⟩)
 have hf:H1 s1.heap.objs.size=none:=I1.hok.fresh (Nat.le_refl _)
 refine ⟨.ref s1.heap.objs.size,upd H1 s1.heap.objs.size (.lst xs),I1.laid (t':=s1.toks) (fun b u e=>Heap.get?_push_of_some _ e) (Nat.le_refl _) ?_,rfl,q _ hf⟩
 exact ⟨z,us,0,r,Heap.get?_push_size _ rfl⟩
end
noncomputable abbrev Sp:=List V->Hp->VK->XK->Prop
noncomputable abbrev CXT:=List Env->Hp->Shared->XK->Value->Shared->Prop
structure Env0 (P:Program) (w:World) (K:PySem.W.Frag) (mg:Str->Option Value) (base:Heap) (A:Around) (outer:List Env) (s:Shared) (H:Hp):Prop where
 frames:A.frames=some outer
 mod:Mod K mg base
 bs:∀b o,base.get? b=some o->s.heap.get? b=some o/\H b=none
 bsz:base.objs.size<=s.heap.objs.size
 funs:s.heap.FunFrames base outer
 frf:∀b∈frs outer,H b=none
 hok:HOk P w H s.heap
 bare:AllBare s.gens
noncomputable def CE (outer:List Env) (P:Program) (w:World) (H:Hp) (s:Shared) (Q:VK) (u:Value) (s':Shared):Prop:=
 ∃v H',s'.os=s.os/\AllBare s'.gens/\Un (frs outer) [] H H' s.heap s'.heap/\HOk P w H' s'.heap/\RelV v u/\Q v H'
noncomputable def CR (CX:CXT) (outer:List Env) (P:Program) (w:World) (H:Hp) (s:Shared) (Q:VK) (E:XK) (r:Result) (s':Shared):Prop:=
 match r with
 |.ok (.ret u)=>CE outer P w H s Q u s'
 |.ok _=>False
 |.error e=>CX outer H s E e s'
structure FnOk (P:Program) (w:World) (K:PySem.W.Frag) (mg:Str->Option Value) (base:Heap) (CX:CXT) (k:Nat) (f:Addr) (fd:FuncData) (ps:List Str) (sp:Sp):Prop where
 len:∀vs H Q E,sp vs H Q E->vs.length=ps.length
 run:∀(A:Around) (outer:List Env) (s:Shared) (H:Hp) (args:Args) (us:List Value) (vs:List V) (Q:VK) (E:XK),Room k A->Env0 P w K mg base A outer s H->BindsTo s fd args (ps.zip us)->Vals vs us->sp vs H Q E->
  codeAny (model P w) A (.call (.ref f) args) (CR CX outer P w H s Q E) s
theorem FnOk.mono {P:Program} {w:World} {K:PySem.W.Frag} {mg:Str->Option Value} {base:Heap} {CX:CXT} {j k:Nat} {f:Addr} {fd:FuncData} {ps:List Str} {sp:Sp} (F:FnOk P w K mg base CX j f fd ps sp) (h:j<=k) :
 FnOk P w K mg base CX k f fd ps sp:=⟨F.len,fun A outer s H args us vs Q E hr=>F.run A outer s H args us vs Q E (hr.mono h)⟩
theorem Env0.make {P:Program} {w:World} {K:PySem.W.Frag} {mg:Str->Option Value} {base:Heap} {A:Around} {outer:List Env} {s:Shared} {H:Hp} (e:Env0 P w K mg base A outer s H) (C:Addr) (us:List Value) (kw:List (Str × Value)) :
 Env0 P w K mg base (A.under (.builtin "type.__call__" ⟨.ref C::us,kw⟩)) outer s H:=⟨by first|exact e.frames|(simpa [Around.under,Code.envs,Code.isFrame,pushEnvs] using e.frames),e.mod,e.bs,e.bsz,e.funs,e.frf,e.hok,e.bare⟩
theorem Env0.in1 {P:Program} {w:World} {K:PySem.W.Frag} {mg:Str->Option Value} {base:Heap} {A:Around} {outer:List Env} {s:Shared} {H:Hp} (e:Env0 P w K mg base A outer s H) :
 Env0 P w K mg base A.in1 outer s H:=⟨e.frames,e.mod,e.bs,e.bsz,e.funs,e.frf,e.hok,e.bare⟩
section
variable {X:Cx} {pins:List (Addr × Obj)} {σ:St} {H:Hp} {s s':Shared}
theorem Inv.env0 (I:Inv X pins σ H s):Env0 X.prog X.w X.K X.mg X.base X.A X.stack s H:=
 ⟨I.ok.frames,I.ok.mod,I.bs,Nat.le_trans I.ok.bsz I.sz,I.stack,I.stkFree,I.hok,I.bare⟩
theorem Inv.after {Q:VK} {u:Value} (I:Inv X pins σ H s) (h:CE X.stack X.prog X.w H s Q u s'):EP X pins σ Q u s':=by
 obtain ⟨v,H',os,bare,un,hok,r,q⟩:=h
 obtain ⟨hh,g,d,t,os'⟩:=s'
 obtain rfl:os'=s.os:=os
 exact ⟨v,H',I.call (h':=hh) (g':=g) (d':=d) (t':=t) (ch:=[]) un hok bare (fun b z=>absurd z (by simp)),r,q⟩
end
noncomputable def tCall (sp:Sp) (dvs:List V) (E:XK) (t:TA):TE:=fun σ H Q=>t σ H fun vs H1=>sp (vs++dvs) H1 Q E
noncomputable def tMake (C:Addr) (sp:Sp) (dvs:List V) (E:XK) (t:TA):TE:=fun σ H Q=>t σ H fun vs H1=>∀x dx,H1 x=none->H1 dx=none->dx≠x->
 sp (.ref x::(vs++dvs)) (upd (upd H1 dx (.own x)) x (.ins C dx [])) (fun v H2=>v=.non/\Q (.ref x) H2) E
noncomputable def Binds (K:PySem.W.Frag) (fd:FuncData) (ps:List Str) (ds:List Value):Prop:=
 ∀(s:Shared) (us:List Value),K.In s.heap->(us++ds).length=ps.length->BindsTo s fd ⟨us,[]⟩ (ps.zip (us++ds))
theorem Binds.all {K:PySem.W.Frag} {fd:FuncData} {ps:List Str} (h:∀us:List Value,us.length=ps.length->bindArgs fd ⟨us,[]⟩=pure (ps.zip us)):Binds K fd ps []:=fun s us _ hl=>by
 rw [List.append_nil] at hl⊢
 exact .of_eq (h us hl)
noncomputable def Passes (CX:CXT) (X:Cx) (E:XK):Prop:=∀(pins:List (Addr × Obj)) (σ:St) (H:Hp) (s:Shared) (e:Value) (s':Shared),Inv X pins σ H s->CX X.stack H s E e s'->X.xe e s'
section
variable {X:Cx} {CX:CXT} {k:Nat} {f C:Addr} {fd:FuncData} {ps:List Str} {sp:Sp} {dvs:List V} {ds:List Value} {E:XK} {x m:Str} {p pos apos:Pos} {e o:Expr} {es:List Expr} {ta:TE} {t:TA}
theorem run_fn {pins:List (Addr × Obj)} {σ:St} {H:Hp} {s:Shared} {Q:VK} {us:List Value} {vs:List V} (F:FnOk X.prog X.w X.K X.mg X.base CX k f fd ps sp) (hr:Room k X.A) (hb:Binds X.K fd ps ds) (hd:Vals dvs ds) (hx:Passes CX X E)
  (I:Inv X pins σ H s) (r:Vals vs us) (h:sp (vs++dvs) H Q E):wpAny (model X.prog X.w) X.A (call (.ref f) us) (EP X pins σ Q) X.xe s:=by
 have r2:Vals (vs++dvs) (us++ds):=r.append hd
 have hl:(us++ds).length=ps.length:=by rw [<-r2.length];exact F.len _ _ _ _ h
 refine wpAny_call (codeAny_mono (F.run X.A X.stack s H ⟨us,[]⟩ (us++ds) (vs++dvs) Q E hr I.env0 (hb s us I.kIn hl) r2 h) fun r s' hq=>?_)
 cases r with
 |error e=>exact hx pins σ H s e s' I hq
 | ok fl =>
   cases fl with
   |ret u=>exact I.after hq
   |next=>exact False.elim hq
   |brk=>exact False.elim hq
   |cont=>exact False.elim hq
theorem pe_call (F:FnOk X.prog X.w X.K X.mg X.base CX k f fd ps sp) (hr:Room k X.A) (hg:Gl X x) (hm:X.mg x=some (.ref f)) (hk:PySem.W.keepIn X.K (.ref f)=true) (hb:Binds X.K fd ps ds) (hd:Vals dvs ds) (hx:Passes CX X E)
  (ha:PA X (e::es) t) (hdb:(x == ("__debug__":Str))=false:=by decide) (he:starEach (e::es) X.env=(false,eval e X.env)::starEach es X.env:=by rfl) (hpl:(backTo pos (starEach es X.env)).any (·.1)=false:=by rfl) :
  PE X (.Call (.Name x p) (e::es) [] pos) (tCall sp dvs E t):=by
 intro pins s σ H Q I h
 refine wpAny_Call_Name_kw (ld_glob I hg hm ?_ hdb)
 refine PySem.W.callWith_K (h₀:=X.base) I.ok.mod.kin hk (thn (ha pos pins s σ H _ I h) fun us s1 ⟨vs,H1,I1,r,q⟩=>⟨I1.kIn,?_⟩) he hpl
 exact run_fn F hr hb hd hx I1 r q
theorem pe_call0 (F:FnOk X.prog X.w X.K X.mg X.base CX k f fd ps sp) (hr:Room k X.A) (hg:Gl X x) (hm:X.mg x=some (.ref f)) (hk:PySem.W.keepIn X.K (.ref f)=true) (hb:Binds X.K fd ps ds) (hd:Vals dvs ds) (hx:Passes CX X E)
  (hdb:(x == ("__debug__":Str))=false:=by decide):PE X (.Call (.Name x p) [] [] pos) (tCall sp dvs E tNil):=by
 intro pins s σ H Q I h
 refine wpAny_Call_Name_kw (ld_glob I hg hm ?_ hdb)
 exact PySem.W.callWith_K0 I.kIn hk (run_fn (us:=[]) F hr hb hd hx I .nil h)
structure Mk (K:PySem.W.Frag) (C f:Addr):Prop where
 makes:PySem.W.makesIn K C=true
 init:PySem.W.findIn K (.ref C) "__init__"=some (some (.ref f))
 fn:PySem.W.isFn K (.ref f)=true
 kp:PySem.W.keepIn K (.ref C)=true
theorem run_make {pins:List (Addr × Obj)} {σ:St} {H:Hp} {s:Shared} {Q:VK} {us:List Value} {vs:List V} (M:Mk X.K C f) (F:FnOk X.prog X.w X.K X.mg X.base CX k f fd ps sp) (hr:Room (k+1) X.A) (hb:Binds X.K fd ps ds) (hd:Vals dvs ds)
  (hx:Passes CX X E) (I:Inv X pins σ H s) (r:Vals vs us)
  (h:∀x dx,H x=none->H dx=none->dx≠x->sp (.ref x::(vs++dvs)) (upd (upd H dx (.own x)) x (.ins C dx [])) (fun v H2=>v=.non/\Q (.ref x) H2) E) :
  wpAny (model X.prog X.w) X.A (call (.ref C) us) (EP X pins σ Q) X.xe s:=by
 have hq:=h (s.heap.objs.size+1) s.heap.objs.size (I.hok.fresh (Nat.le_succ _)) (I.hok.fresh (Nat.le_refl _)) (Nat.ne_of_lt (Nat.lt_succ_self _))
 have I2:=Inv.made (C:=C) I
 have r2:Vals (V.ref (s.heap.objs.size+1)::(vs++dvs)) (Value.ref (s.heap.objs.size+1)::(us++ds)):=.cons rfl (r.append hd)
 have hl:(Value.ref (s.heap.objs.size+1)::us++ds).length=ps.length:=by
  have e:=r2.length
  rw [F.len _ _ _ _ hq] at e
  exact e.symm
 refine wpAny_call (make_map (f:=f) I.kIn M.makes M.init (beq_iff_eq.mp M.fn) (codeAny_mono (F.run _ X.stack _ _ ⟨Value.ref (s.heap.objs.size+1)::us,[]⟩ (Value.ref (s.heap.objs.size+1)::(us++ds)) _ _ E (hr.make C us [])
  (I2.env0.make C us []) (hb _ (Value.ref (s.heap.objs.size+1)::us) I2.kIn hl) r2 hq) fun r s' hq'=>?_))
 cases r with
 |error e=>exact hx pins σ _ _ e s' I2 hq'
 | ok fl =>
   cases fl with
   | ret u =>
     obtain ⟨v,H',I3,rv,ev,q3⟩:=I2.after hq'
     subst ev
     exact ⟨rv,⟨V.ref (s.heap.objs.size+1),H',I3,rfl,q3⟩⟩
   |next=>exact False.elim hq'
   |brk=>exact False.elim hq'
   |cont=>exact False.elim hq'
theorem pe_make (M:Mk X.K C f) (F:FnOk X.prog X.w X.K X.mg X.base CX k f fd ps sp) (hr:Room (k+1) X.A) (hg:Gl X x) (hm:X.mg x=some (.ref C)) (hb:Binds X.K fd ps ds) (hd:Vals dvs ds) (hx:Passes CX X E)
  (ha:PA X (e::es) t) (hdb:(x == ("__debug__":Str))=false:=by decide) (he:starEach (e::es) X.env=(false,eval e X.env)::starEach es X.env:=by rfl) (hpl:(backTo pos (starEach es X.env)).any (·.1)=false:=by rfl) :
  PE X (.Call (.Name x p) (e::es) [] pos) (tMake C sp dvs E t):=by
 intro pins s σ H Q I h
 refine wpAny_Call_Name_kw (ld_glob I hg hm ?_ hdb)
 refine PySem.W.callWith_K (h₀:=X.base) I.ok.mod.kin M.kp (thn (ha pos pins s σ H _ I h) fun us s1 ⟨vs,H1,I1,r,q⟩=>⟨I1.kIn,?_⟩) he hpl
 exact run_make M F hr hb hd hx I1 r q
theorem pe_make0 (M:Mk X.K C f) (F:FnOk X.prog X.w X.K X.mg X.base CX k f fd ps sp) (hr:Room (k+1) X.A) (hg:Gl X x) (hm:X.mg x=some (.ref C)) (hb:Binds X.K fd ps ds) (hd:Vals dvs ds) (hx:Passes CX X E)
  (hdb:(x == ("__debug__":Str))=false:=by decide):PE X (.Call (.Name x p) [] [] pos) (tMake C sp dvs E tNil):=by
 intro pins s σ H Q I h
 refine wpAny_Call_Name_kw (ld_glob I hg hm ?_ hdb)
 exact PySem.W.callWith_K0 I.kIn M.kp (run_make (us:=[]) M F hr hb hd hx I .nil h)
end
noncomputable def PK (X:Cx) (kws:List Keyword) (t:TA):Prop:=
 ∀(pos:Pos) (pins:List (Addr × Obj)) (s:Shared) (σ:St) (H:Hp) (Q:List V->Hp->Prop),Inv X pins σ H s->t σ H Q->wpAny (model X.prog X.w) X.A (evalAll ((backToKw pos (keywordEach kws X.env)).map (·.2))) (AP X pins σ Q) X.xe s
section
variable {X:Cx} {CX:CXT} {k:Nat} {f C:Addr} {fd:FuncData} {ps ks:List Str} {sp:Sp} {E:XK} {x m:Str} {p pos apos kpos:Pos} {e o:Expr} {es:List Expr} {kws:List Keyword} {te ta:TE} {t tk:TA} {nm:Option Str}
theorem pk_nil:PK X [] tNil:=fun _ _ _ _ H Q I h=>wpAny_evalAll_nil ⟨[],H,I,.nil,h⟩
theorem pk_cons (ha:PE X e te) (hr:PK X kws t):PK X (⟨nm,e,kpos⟩::kws) (tCons te t):=by
 intro pos pins s σ H Q I h
 show wpAny _ _ (evalAll ((do let v <-eval e X.env;standAt pos;pure v)::(backToKw pos (keywordEach kws X.env)).map (·.2))) _ _ s
 refine wpAny_evalAll_cons (wpAny_bind (thn (ha pins s σ H _ I h) fun u s1 ⟨x,H1,I1,r1,q1⟩=>wpAny_bind (wpAny_standAt (wpAny_pure ?_))))
 exact thn (hr pos pins s1 σ H1 _ I1 q1) fun us s2 ⟨xs,H2,I2,r2,q2⟩=>⟨x::xs,H2,I2,.cons r1 r2,q2⟩
structure KBinds (K:PySem.W.Frag) (fd:FuncData) (ps ks:List Str) (g:List Value->List Value->List Value) (gV:List V->List V->List V):Prop where
 to:∀(s:Shared) (us ws:List Value),K.In s.heap->(g us ws).length=ps.length->BindsTo s fd ⟨us,ks.zip ws⟩ (ps.zip (g us ws))
 rel:∀{vs:List V} {us:List Value} {zs:List V} {ws:List Value},Vals vs us->Vals zs ws->Vals (gV vs zs) (g us ws)
variable {g:List Value->List Value->List Value} {gV:List V->List V->List V}
end
structure FnScope (N P:List Str) (sc:Scope):Prop where
 kind:sc.kind=.function
 co:sc.isCoroutine=false
 gen:sc.isGenerator=false
 nd:N.Nodup
 pre:N.take P.length=P
 par:∀x∈P,sc.names.lookup x=some .local\/sc.names.lookup x=some .cell
 nofree:∀y∈sc.names,y.2≠.free
theorem bindL_out {kindOf:Str->Option NameKind} {x:Str}:∀{binds:List (Str × Value)} {m:Str->Option Value},(∀v,(x,v)∉binds)->bindL kindOf binds m x=m x
 | [],_,_=>rfl
 | (n, v) :: r, m, h => by
   unfold bindL
   rw [bindL_out fun w hw=>h w (List.mem_cons_of_mem _ hw)]
   split
   · have:x≠n:=by rintro rfl;exact h v List.mem_cons_self
     simp [this]
   · rfl
theorem bindC_out {kindOf:Str->Option NameKind} {x:Str}:∀{binds:List (Str × Value)} {m:Str->Option Value},(∀v,(x,v)∉binds)->bindC kindOf binds m x=m x
 | [],_,_=>rfl
 | (n, v) :: r, m, h => by
   unfold bindC
   rw [bindC_out fun w hw=>h w (List.mem_cons_of_mem _ hw)]
   split
   · rfl
   · have:x≠n:=by rintro rfl;exact h v List.mem_cons_self
     simp [this]
theorem bindL_get {kindOf:Str->Option NameKind} {x:Str} {v:Value}:∀{P:List Str} {vs:List Value} {i:Nat} {m:Str->Option Value},P.Nodup->P[i]?=some x->vs[i]?=some v->kindOf x=some .local->
  bindL kindOf (P.zip vs) m x=some v
 | [],_,_,_,_,h,_,_=>by simp at h
 |_::_,[],_,_,_,_,h,_=>by simp at h
 | p :: P, w :: vs, 0, m, nd, h1, h2, hk => by
   simp at h1 h2;subst h1;subst h2
   show bindL kindOf ((p,w)::P.zip vs) m p=_
   unfold bindL
   rw [bindL_out fun v hv=>(List.nodup_cons.mp nd).1 (List.of_mem_zip hv).1,if_pos hk]
   simp
 | p :: P, w :: vs, i + 1, m, nd, h1, h2, hk => by
   show bindL kindOf ((p,w)::P.zip vs) m x=_
   unfold bindL
   exact bindL_get (i:=i) (List.nodup_cons.mp nd).2 (by simpa using h1) (by simpa using h2) hk
theorem bindC_get {kindOf:Str->Option NameKind} {x:Str} {v:Value}:∀{P:List Str} {vs:List Value} {i:Nat} {m:Str->Option Value},P.Nodup->P[i]?=some x->vs[i]?=some v->kindOf x≠some .local->
  bindC kindOf (P.zip vs) m x=some v
 | [],_,_,_,_,h,_,_=>by simp at h
 |_::_,[],_,_,_,_,h,_=>by simp at h
 | p :: P, w :: vs, 0, m, nd, h1, h2, hk => by
   simp at h1 h2;subst h1;subst h2
   show bindC kindOf ((p,w)::P.zip vs) m p=_
   unfold bindC
   rw [bindC_out fun v hv=>(List.nodup_cons.mp nd).1 (List.of_mem_zip hv).1,if_neg hk]
   simp
 | p :: P, w :: vs, i + 1, m, nd, h1, h2, hk => by
   show bindC kindOf ((p,w)::P.zip vs) m x=_
   unfold bindC
   exact bindC_get (i:=i) (List.nodup_cons.mp nd).2 (by simpa using h1) (by simpa using h2) hk
noncomputable def start (N:List Str) (vs:List V):St:=vs.map some++List.replicate (N.length - vs.length) none
noncomputable def cxOf (CX:CXT) (P:Program) (w:World) (K:PySem.W.Frag) (mg:Str->Option Value) (base:Heap) (N:List Str) (qual:Str) (scope:Scope) (f:Addr) (cd:Value) (A:Around) (outer:List Env) (s:Shared) (H:Hp) (E:XK):Cx where
 prog:=P
 w:=w
 K:=K
 mg:=mg
 base:=base
 A:=A.deeper (envOfC qual scope s.heap.objs.size f cd)
 N:=N
 s₀:=s
 H₀:=H
 env:=envOfC qual scope s.heap.objs.size f cd
 outer:=outer
 stack:=envOfC qual scope s.heap.objs.size f cd::outer
 ex:=[]
 calm:=true
 fn:=fun _=>true
 pn:=[]
 xe:=fun e s'=>wpAny (model P w) (A.deeper (envOfC qual scope s.heap.objs.size f cd)) (leaving (envOfC qual scope s.heap.objs.size f cd) e) (fun _ s''=>CX outer H s E e s'') (fun e' s''=>CX outer H s E e' s'') s'
theorem cell_has {sc:Scope} {n:Nat} {x:Str} (h:sc.names.lookup x=some .cell):∃c,(cellsFrom n sc.names []).lookup x=some c:=by
 have q:=PySem.W.cellsFrom_some sc.names n [] (.inl h)
 exact Option.isSome_iff_exists.mp q
theorem inv_start {CX:CXT} {P:Program} {w:World} {K:PySem.W.Frag} {mg:Str->Option Value} {base:Heap} {N ps:List Str} {qual:Str} {scope:Scope} {f:Addr} {cd:Value} {A:Around} {outer:List Env} {s s1:Shared} {H:Hp} {E:XK} {us:List Value} {vs:List V}
  (S:FnScope N ps scope) (hd:A.handled=none) (e0:Env0 P w K mg base A outer s H) (hl:vs.length=ps.length) (r:Vals vs us)
  (x:InCallC s s.heap.objs.size (bindL (envOfC qual scope s.heap.objs.size f cd).kindOf (ps.zip us) fun _=>none) (cellsFrom (s.heap.objs.size+1) scope.names []) (bindC (envOfC qual scope s.heap.objs.size f cd).kindOf (ps.zip us) fun _=>none) s1) :
  Inv (cxOf CX P w K mg base N qual scope f cd A outer s H E) [] (start N vs) H s1:=by
 have hpl:ps.length<=N.length:=by have:=congrArg List.length S.pre;rw [List.length_take] at this;omega
 obtain ⟨h1,tk,rfl,hk⟩:=x.done
 have noA:∀b:Addr,b∉(cxOf CX P w K mg base N qual scope f cd A outer s H E).ex:=fun b z=>absurd (show b∈([]:List Addr) from z) (by simp)
 refine ⟨⟨e0.mod,S.kind,rfl,rfl,Nat.le_refl _,fun y z c h1 h2=>?_,fun y hy=>?_,fun y c _ h=>?_,fun _=>hd,Around.frames_deeper e0.frames,.inr ⟨rfl,rfl⟩,fun b z=>absurd z (noA b),e0.bs,e0.bsz,fun b _ _=>noA b,fun b z=>absurd z (noA b),e0.funs,e0.frf⟩,
  rfl,e0.bare,Un.kept hk,⟨_,x.toInCall.ns,fun i y v h1 h2 h3=>?_⟩,fun y c h=>⟨_,x.cell y c h⟩,e0.hok.fresh (Nat.le_refl _),fun y c h=>?_,fun p hp=>absurd (show p∈([]:List (Addr × Obj)) from hp) (by simp),e0.hok.kept hk,?_⟩
 · exact name_of_addr x.apart (PySem.mem_of_lookup h1) (PySem.mem_of_lookup h2)
 · have hy:scope.names.lookup y=some .cell\/scope.names.lookup y=some .free:=hy
   rcases hy with hy|hy
   · exact cell_has hy
   · exact absurd rfl (S.nofree _ (PySem.mem_of_lookup hy))
 · exact Nat.le_of_lt (x.above y c (PySem.mem_of_lookup h))
 · have hi:i<vs.length:=by
    unfold start at h2
    by_cases hi:i<vs.length
    · exact hi
    · rw [List.getElem?_append_right (by simpa using hi)] at h2
      rw [List.getElem?_replicate] at h2
      split at h2<;>cases h2
   have ha:vs[i]?=some v:=by
    unfold start at h2
    rw [List.getElem?_append_left (by simpa using hi),List.getElem?_map] at h2
    cases e:vs[i]? with
    |none=>rw [e] at h2;cases h2
    |some a=>rw [e] at h2;cases h2;rfl
   obtain ⟨u,hu,rv⟩:=r.get ha
   have hp:ps[i]?=some y:=by
    rw [<-S.pre,List.getElem?_take_of_lt (by omega)];exact h1
   have ndP:ps.Nodup:=by rw [<-S.pre];exact S.nd.sublist (List.take_sublist _ _)
   refine ⟨u,rv,?_⟩
   rcases S.par y (List.mem_of_getElem? hp) with k|k
   · exact .inl ⟨k,bindL_get ndP hp hu k⟩
   · obtain ⟨c,e⟩:=cell_has (n:=s.heap.objs.size+1) k
     refine .inr ⟨.inl k,c,e,?_⟩
     have q:=x.cell y c e
     rw [bindC_get ndP hp hu (by show scope.names.lookup y≠_;rw [k];decide)] at q
     exact q
 · exact e0.hok.fresh (Nat.le_of_lt (x.above y c (PySem.mem_of_lookup h)))
 · unfold start
   show _=N.length
   rw [List.length_append,List.length_map,List.length_replicate]
   omega
theorem fn_of {CX:CXT} {P:Program} {w:World} {K:PySem.W.Frag} {mg:Str->Option Value} {base:Heap} {k:Nat} {f:Addr} {name qual:Str} {params:Arguments} {body:List Stmt} {scope:Scope} {dV kV doc pm cdv ct oc:Value} {an od:Option Addr}
  {osl:Array (Option Value)} {N ps:List Str} {sp:Sp} (lk:K.lookup f=some ⟨oc,od,.func (PySem.W.fnOf name qual params body scope dV kV doc pm an cdv ct),osl⟩) (hcd:PySem.W.codeIn K cdv qual=true) (S:FnScope N ps scope)
  (len:∀vs H Q E,sp vs H Q E->vs.length=ps.length)
  (hbody:∀(A:Around) (outer:List Env) (s:Shared) (H:Hp) (vs:List V) (Q:VK) (E:XK),Room k (A.deeper (envOfC qual scope s.heap.objs.size f cdv))->sp vs H Q E->
   ∃t,PSs (cxOf CX P w K mg base N qual scope f cdv A outer s H E) body t/\t {nx:=fun _ H'=>Q .non H',rt:=Q} (start N vs) H) :
  FnOk P w K mg base CX (k+1) f (PySem.W.fnOf name qual params body scope dV kV doc pm an cdv ct) ps sp:=by
 refine ⟨len,fun A outer s H args us vs Q E hr e0 hb r hsp=>?_⟩
 have hl:=len _ _ _ _ hsp
 have KX:K.In s.heap:=e0.mod.kin.keeps fun b o e=>(e0.bs b o e).1
 have lim:s.heap.NoLimit:=e0.mod.nolimit.keeps fun b o e=>(e0.bs b o e).1
 have hkind:∀y∈ps.zip us,scope.names.lookup y.1=some .local\/(scope.names.lookup y.1=some .cell/\((cellsFrom (s.heap.objs.size+1) scope.names []).lookup y.1).isSome=true):=fun ⟨n,v⟩ hy=>by
  rcases S.par n (List.of_mem_zip hy).1 with q|q
  · exact .inl q
  · exact .inr ⟨q,PySem.W.cellsFrom_some _ _ _ (.inl q)⟩
 refine codeAny_call_function hr.depth (KX _ _ lk) rfl S.co S.gen rfl (PySem.W.codeRec_of KX hcd) (hb _ _ _ _ ?_)
 refine wpAny_newFunctionEnv_cells S.kind hkind fun env he s1 x=>?_
 subst he
 refine ⟨lim.keeps x.toInCall.keep,codeAny_func ?_⟩
 obtain ⟨t,ht,hq⟩:=hbody A outer s H vs Q E (hr.deeper _) hsp
 have I:Inv (cxOf CX P w K mg base N qual scope f cdv A outer s H E) [] (start N vs) H s1:=inv_start S hr.hd e0 hl r x
 refine wpAny_mono (ht [] s1 (start N vs) H _ I hq) (fun fl s' hs=>?_) fun e s' hs=>hs
 have fin:∀{σ':St} {H':Hp} {v:V} {u:Value},Inv (cxOf CX P w K mg base N qual scope f cdv A outer s H E) [] σ' H' s'->RelV v u->Q v H'->CE outer P w H s Q u s':=
  fun {σ' H' v u} J rv q=>⟨v,H',J.os,J.bare,J.base,J.hok,rv,q⟩
 cases fl with
 | ret u =>
   obtain ⟨v,σ',H',J,rv,q⟩:=hs
   exact fin J rv q
 | next =>
   obtain ⟨σ',H',J,q⟩:=hs
   exact fin (v:=V.non) (u:=Value.none) J rfl q
 | brk =>
   obtain ⟨_,_,_,q⟩:=hs
   exact False.elim q
 | cont =>
   obtain ⟨_,_,_,q⟩:=hs
   exact False.elim q
end L2
namespace L2
open PySem PySem.Spec PyProof.Rows
section
variable {X:Cx} {x:Str} {p pos:Pos} {e:Expr} {es:List Expr} {t:TA} {id T:String} {r:List V->Hp->VK->Prop}
noncomputable def tCB (r:List V->Hp->VK->Prop) (t:TA):TE:=fun σ H Q=>t σ H fun vs H1=>r vs H1 Q
theorem pe_callB (hc:CallR X (.builtin id) r) (hg:Gl X x) (hm:X.mg x=none) (hv:bootBuiltins x=some (.builtin id)) (ha:PA X (e::es) t) (hn:x≠"__name__":=by decide) (hdb:(x == ("__debug__":Str))=false:=by decide)
  (he:starEach (e::es) X.env=(false,eval e X.env)::starEach es X.env:=by rfl) (hpl:(backTo pos (starEach es X.env)).any (·.1)=false:=by rfl):PE X (.Call (.Name x p) (e::es) [] pos) (tCB r t):=by
 intro pins s σ H Q I h
 refine wpAny_Call_Name_kw (ld_blt I hg hm hv ?_ hn hdb)
 exact PyProof.Rows.callWith_builtin1 (thn (ha pos pins s σ H _ I h) fun us s1 ⟨vs,H1,I1,r1,q1⟩=>hc pins s1 σ H1 vs us Q I1 r1 q1) he hpl
theorem pe_callTy (hc:CallR X (.type T) r) (hg:Gl X x) (hm:X.mg x=none) (hv:bootBuiltins x=some (.type T)) (ha:PA X (e::es) t) (hn:x≠"__name__":=by decide) (hdb:(x == ("__debug__":Str))=false:=by decide)
  (he:starEach (e::es) X.env=(false,eval e X.env)::starEach es X.env:=by rfl) (hpl:(backTo pos (starEach es X.env)).any (·.1)=false:=by rfl):PE X (.Call (.Name x p) (e::es) [] pos) (tCB r t):=by
 intro pins s σ H Q I h
 refine wpAny_Call_Name_kw (ld_blt I hg hm hv ?_ hn hdb)
 exact PyProof.Rows.callWith_type1 (thn (ha pos pins s σ H _ I h) fun us s1 ⟨vs,H1,I1,r1,q1⟩=>hc pins s1 σ H1 vs us Q I1 r1 q1) he hpl
end
end L2
namespace L2
open PySem PySem.Spec PyProof.Rows
section
variable {κ:Type} [DecidableEq κ]
noncomputable def valV (kvs:List (κ × V)) (k:κ):Option V:=(kvs.find? fun kv=>decide (kv.1=k)).map (·.2)
noncomputable def putK (kvs:List (κ × V)) (k:κ) (v:V):List (κ × V):=
 if (kvs.any fun kv=>decide (kv.1=k))=true then kvs.map (fun kv=>if kv.1=k then (kv.1,v) else kv) else kvs++[(k,v)]
theorem valV_pos {p:κ × V} {r:List (κ × V)} {k:κ} (e:p.1=k):valV (p::r) k=some p.2:=by simp [valV,List.find?_cons,e]
theorem valV_neg {p:κ × V} {r:List (κ × V)} {k:κ} (e:¬p.1=k):valV (p::r) k=valV r k:=by simp [valV,List.find?_cons,e]
theorem valV_any (k:κ):∀kvs:List (κ × V),(kvs.any fun kv=>decide (kv.1=k))=(valV kvs k).isSome
 | []=>rfl
 | p :: r => by
   rw [List.any_cons]
   by_cases e:p.1=k
   · simp only [valV_pos e,decide_eq_true e,Bool.true_or,Option.isSome_some]
   · rw [valV_neg e,decide_eq_false e,Bool.false_or];exact valV_any k r
theorem length_putK (kvs:List (κ × V)) (k:κ) (v:V):(putK kvs k v).length<=kvs.length+1:=by
 unfold putK
 split
 · rw [List.length_map];omega
 · rw [List.length_append,List.length_cons,List.length_nil];omega
theorem RelO.isSome_eq {o:Option V} {u:Option Value} (r:RelO o u):o.isSome=u.isSome:=by
 cases o with
 | none => cases u with
   |none=>rfl
   |some _=>exact (show False from r).elim
 | some _ => cases u with
   |none=>exact (show False from r).elim
   |some _=>rfl
theorem RelO.getD {o:Option V} {u:Option Value} {d:V} {d':Value} (r:RelO o u) (rd:RelV d d'):RelV (o.getD d) (u.getD d'):=by
 cases o with
 | none => cases u with
   |none=>exact rd
   |some _=>exact (show False from r).elim
 | some _ => cases u with
   |none=>exact (show False from r).elim
   |some _=>exact r
theorem KV.val {kvs:List (κ × V)} {vs:List (κ × Value)} (r:KV kvs vs) (k:κ):RelO (valV kvs k) (valueAt vs k):=by
 unfold KV at r
 induction r with
 |nil=>exact True.intro
 | @cons p q ps qs h t ih =>
   obtain ⟨h1,h2⟩:=h
   by_cases e:p.1=k
   · have e':q.1=k:=h1.symm.trans e
     have b:valueAt (q::qs) k=some q.2:=by simp [valueAt,List.find?_cons,e']
     rw [valV_pos e,b];exact h2
   · have e':¬q.1=k:=fun z=>e (h1.trans z)
     have b:valueAt (q::qs) k=valueAt qs k:=by simp [valueAt,List.find?_cons,e']
     rw [valV_neg e,b];exact ih
theorem KV.any {kvs:List (κ × V)} {vs:List (κ × Value)} (r:KV kvs vs) (k:κ):(kvs.any fun kv=>decide (kv.1=k))=vs.any fun kv=>decide (kv.1=k):=by
 unfold KV at r
 induction r with
 |nil=>rfl
 |cons h t ih=>rw [List.any_cons,List.any_cons,ih,h.1]
theorem KV.repl {kvs:List (κ × V)} {vs:List (κ × Value)} (r:KV kvs vs) (k:κ) {y:V} {u:Value} (ry:RelV y u) :
  KV (kvs.map fun kv=>if kv.1=k then (kv.1,y) else kv) (vs.map fun kv=>if kv.1=k then (kv.1,u) else kv):=by
 unfold KV at r⊢
 induction r with
 |nil=>exact .nil
 | @cons p q ps qs h t ih =>
   rw [List.map_cons,List.map_cons]
   refine .cons ?_ ih
   obtain ⟨h1,h2⟩:=h
   by_cases e:p.1=k
   · rw [if_pos e,if_pos (h1.symm.trans e)];exact ⟨h1,ry⟩
   · rw [if_neg e,if_neg (fun z=>e (h1.trans z))];exact ⟨h1,h2⟩
theorem KV.put {kvs:List (κ × V)} {vs:List (κ × Value)} (r:KV kvs vs) (k:κ) {y:V} {u:Value} (ry:RelV y u):KV (putK kvs k y) (stored vs k u):=by
 unfold putK stored
 rw [r.any k]
 by_cases e:(vs.any fun kv=>decide (kv.1=k))=true
 · rw [if_pos e,if_pos e];exact r.repl k ry
 · rw [if_neg e,if_neg e];exact Paired.snoc r ⟨rfl,ry⟩
theorem KV.length {kvs:List (κ × V)} {vs:List (κ × Value)} (r:KV kvs vs):kvs.length=vs.length:=Paired.length r
end
theorem kV_is {P:Program} {w:World} {k:Key} {u:Value} (r:RelV (kV k) u):(mixKind P w).is k u=true:=by
 cases k with
 |inl i=>obtain ⟨t,e⟩:=(show ∃t,u=Value.int i t from r);subst e;exact mixKind_int P w i t
 |inr x=>obtain ⟨t,e⟩:=(show ∃t,u=Value.str x t from r);subst e;exact mixKind_str P w x t
theorem items_are {P:Program} {w:World}:∀{ks:List Key} {us:List Value},Vals (ks.map kV) us->ItemsAre (mixKind P w) ks us
 | [],_,r=>by rw [List.map_nil] at r;cases r;exact .nil
 | k :: ks, _, r => by
   rw [List.map_cons] at r
   cases r with
   |cons h t=>exact .cons (kV_is h) (items_are t)
noncomputable abbrev KT (H:Hp):List (List Key × V)->List (List Key × Addr × Value)->Prop:=Paired fun p q=>p.1=q.1/\H q.2.1=some (.tup (p.1.map kV))/\RelV p.2 q.2.2
theorem KT.val {H:Hp} {kvs:List (List Key × V)} {xs:List (List Key × Addr × Value)} (r:KT H kvs xs) (k:List Key):RelO (valV kvs k) ((atKey xs k).map (·.2)):=by
 induction r with
 |nil=>exact True.intro
 | @cons p q ps qs h t ih =>
   obtain ⟨h1,_,h2⟩:=h
   by_cases e:p.1=k
   · have e':q.1=k:=h1.symm.trans e
     have b:atKey (q::qs) k=some q.2:=by simp [atKey,List.find?_cons,e']
     rw [valV_pos e,b];exact h2
   · have e':¬q.1=k:=fun z=>e (h1.trans z)
     have b:atKey (q::qs) k=atKey qs k:=by simp [atKey,List.find?_cons,e']
     rw [valV_neg e,b];exact ih
theorem KT.repl {H:Hp} {kvs:List (List Key × V)} {xs:List (List Key × Addr × Value)} (r:KT H kvs xs) (k:List Key) {y:V} {u:Value} (ry:RelV y u) :
  KT H (kvs.map fun kv=>if kv.1=k then (kv.1,y) else kv) (xs.map (putAt k u)):=by
 induction r with
 |nil=>exact .nil
 | @cons p q ps qs h t ih =>
   rw [List.map_cons,List.map_cons]
   refine .cons ?_ ih
   obtain ⟨h1,h2,h3⟩:=h
   unfold putAt
   by_cases e:p.1=k
   · rw [if_pos e,if_pos (h1.symm.trans e)];exact ⟨h1,h2,ry⟩
   · rw [if_neg e,if_neg (fun z=>e (h1.trans z))];exact ⟨h1,h2,h3⟩
theorem KT.put {H:Hp} {kvs:List (List Key × V)} {xs:List (List Key × Addr × Value)} (r:KT H kvs xs) (k:List Key) {b:Addr} {y:V} {u:Value} (hb:H b=some (.tup (k.map kV))) (ry:RelV y u) :
  KT H (putK kvs k y) (storedH xs k b u):=by
 have e:(kvs.any fun kv=>decide (kv.1=k))=(atKey xs k).isSome:=by
  rw [valV_any,(r.val k).isSome_eq,Option.isSome_map]
 unfold putK storedH
 rw [e]
 by_cases q:(atKey xs k).isSome=true
 · rw [if_pos q,if_pos q];exact r.repl k ry
 · rw [if_neg q,if_neg q];exact Paired.snoc r ⟨rfl,hb,ry⟩
theorem KT.keeps {H H':Hp} {kvs:List (List Key × V)} {xs:List (List Key × Addr × Value)} (r:KT H kvs xs) (ht:∀b ys,H b=some (.tup ys)->H' b=some (.tup ys)):KT H' kvs xs:=
 Paired.mapP r fun _ _ z=>⟨z.1,ht _ _ z.2.1,z.2.2⟩
section
variable {P:Program} {w:World} {H:Hp} {h:Heap} {a:Addr}
theorem rd_of {u:HO} (ok:HOk P w H h) (e:Rd H a u):ObjOk P w H h a u:=e.ok ok
theorem dk_rd {kvs:List (Key × V)} (ok:HOk P w H h) (e:Rd H a (.dK kvs)):kvs.length<=sizeLine/\(a == sysModules)=false/\∃vs,KV kvs vs/\h.DictOf (mixKind P w) a vs:=
 show ObjOk P w H h a (.dK kvs) from rd_of ok e
theorem dk_of {kvs:List (Key × V)} (ok:HOk P w H h) (e:H a=some (.dK kvs)):kvs.length<=sizeLine/\(a == sysModules)=false/\∃vs,KV kvs vs/\h.DictOf (mixKind P w) a vs:=dk_rd ok (.inl e)
theorem key_of {ks:List Key} (ok:HOk P w H h) (e:H a=some (.tup (ks.map kV))):(tupleKind (mixKind P w)).is h ks a:=by
 obtain ⟨_,its,r,o,h1,h2,n,h3⟩:=(show ObjOk P w H h a (.tup (ks.map kV)) from ok a _ e)
 exact ⟨o,its.toArray,n,h1,h2,h3,by simpa using items_are r⟩
theorem dt_rd {kvs:List (List Key × V)} (ok:HOk P w H h) (e:Rd H a (.dT kvs)):kvs.length<=sizeLine/\(a == sysModules)=false/\
  ∃xs,KT H kvs xs/\h.DictOfH (tupleKind (mixKind P w)) a xs:=by
 obtain ⟨z,y,xs,r,o,es,ep,h1,h2,h3,h4,h5⟩:=(show ObjOk P w H h a (.dT kvs) from rd_of ok e)
 refine ⟨z,y,xs,r,o,es,ep,h1,h2,h3,h4,fun x hx=>?_,h5⟩
 have all:∀{l:List (List Key × V)} {m:List (List Key × Addr × Value)},KT H l m->∀x∈m,(tupleKind (mixKind P w)).is h x.1 x.2.1:=by
  intro l m q
  induction q with
  |nil=>intro x hx;exact nomatch hx
  | @cons p q ps qs hq t ih =>
    intro x hx
    rcases List.mem_cons.mp hx with e|hx
    · subst e
      exact key_of ok (by rw [<-hq.1];exact hq.2.1)
    · exact ih x hx
 exact all r x hx
theorem dt_of {kvs:List (List Key × V)} (ok:HOk P w H h) (e:H a=some (.dT kvs)):kvs.length<=sizeLine/\(a == sysModules)=false/\
 ∃xs,KT H kvs xs/\h.DictOfH (tupleKind (mixKind P w)) a xs:=dt_rd ok (.inl e)
end
noncomputable def DGet (H:Hp) (a:Addr) (y:V) (r:Option V):Prop:=
 (∃kvs k,Rd H a (.dK kvs)/\y=kV k/\r=valV kvs k)\/∃kvs k b,Rd H a (.dT kvs)/\y=.ref b/\H b=some (.tup (k.map kV))/\r=valV kvs k
noncomputable def DPut (H:Hp) (a:Addr) (y v:V) (H':Hp):Prop:=
 (∃kvs k,H a=some (.dK kvs)/\y=kV k/\kvs.length<sizeLine/\H'=upd H a (.dK (putK kvs k v)))\/
 ∃kvs k b,H a=some (.dT kvs)/\y=.ref b/\H b=some (.tup (k.map kV))/\kvs.length<sizeLine/\H'=upd H a (.dT (putK kvs k v))
theorem DGet.k {H:Hp} {a:Addr} {kvs:List (Key × V)} {k:Key} (e:H a=some (.dK kvs)):DGet H a (kV k) (valV kvs k):=.inl ⟨kvs,k,.inl e,rfl,rfl⟩
theorem DGet.t {H:Hp} {a b:Addr} {kvs:List (List Key × V)} {k:List Key} (e:H a=some (.dT kvs)) (eb:H b=some (.tup (k.map kV))):DGet H a (.ref b) (valV kvs k):=.inr ⟨kvs,k,b,.inl e,rfl,eb,rfl⟩
theorem DPut.k {H:Hp} {a:Addr} {kvs:List (Key × V)} {k:Key} {v:V} (e:H a=some (.dK kvs)) (hl:kvs.length<sizeLine):DPut H a (kV k) v (upd H a (.dK (putK kvs k v))):=.inl ⟨kvs,k,e,rfl,hl,rfl⟩
section
variable {X:Cx} {pins:List (Addr × Obj)} {σ:St} {H:Hp} {s:Shared} {a:Addr} {y v:V} {u r:Value} {o:Option V} {A:Around} {E:Value->Shared->Prop}
theorem Inv.big (I:Inv X pins σ H s):sysModules<s.heap.objs.size:=by
 have h:mainGlobals<s.heap.objs.size:=(I.mod.glob.keeps I.bk).lt
 exact Nat.lt_trans (by decide) h
theorem d_in {Q:Value->Shared->Prop} (hu:A.units+1<cLine) (I:Inv X pins σ H s) (g:DGet H a y o) (ry:RelV y u) (h:∀s',Inv X pins σ H s'->Q (.bool o.isSome) s') :
  wpAny (model X.prog X.w) A (compareOp .In u (.ref a)) Q E s:=by
 rcases g with ⟨kvs,k,e,ey,l⟩|⟨kvs,k,b,e,ey,eb,l⟩
 · subst ey
   obtain ⟨z,hd,vs,rel,dd⟩:=dk_rd I.hok e
   refine wpAny_in_of (kV_is ry) hd dd.mapOf ?_
   rw [<-(rel.val k).isSome_eq,<-l]
   exact h _ (I.tok _)
 · subst ey
   cases (show u=Value.ref b from ry)
   obtain ⟨z,hd,xs,rel,dd⟩:=dt_rd I.hok e
   refine wpAny_in_heap (tupleKind_room_in1 hu) (key_of I.hok eb) hd dd ?_
   have q:=(rel.val k).isSome_eq
   rw [Option.isSome_map] at q
   rw [<-q,<-l]
   exact h _ (I.tok _)
theorem d_notIn {Q:Value->Shared->Prop} (hu:A.units+1<cLine) (I:Inv X pins σ H s) (g:DGet H a y o) (ry:RelV y u) (h:∀s',Inv X pins σ H s'->Q (.bool (!o.isSome)) s') :
  wpAny (model X.prog X.w) A (compareOp .NotIn u (.ref a)) Q E s:=by
 rcases g with ⟨kvs,k,e,ey,l⟩|⟨kvs,k,b,e,ey,eb,l⟩
 · subst ey
   obtain ⟨z,hd,vs,rel,dd⟩:=dk_rd I.hok e
   refine wpAny_notIn_of (kV_is ry) hd dd.mapOf ?_
   rw [<-(rel.val k).isSome_eq,<-l]
   exact h _ (I.tok _)
 · subst ey
   cases (show u=Value.ref b from ry)
   obtain ⟨z,hd,xs,rel,dd⟩:=dt_rd I.hok e
   refine wpAny_notIn_heap (tupleKind_room_in1 hu) (key_of I.hok eb) hd dd ?_
   have q:=(rel.val k).isSome_eq
   rw [Option.isSome_map] at q
   rw [<-q,<-l]
   exact h _ (I.tok _)
theorem d_write {h':Heap} {t':Nat} {ob:HO} (I:Inv X pins σ H s) (mu:Mut (H a)) (hs:Heap.SameBut a s.heap h') (he:∃q,h'.get? a=some q) (new:ObjOk X.prog X.w (upd H a ob) h' a ob) :
  Inv X pins σ (upd H a ob) {s with heap:=h',toks:=t'}:=
 I.write (x:=a) (e:=a) mu (.inl rfl) (fun b q hb z=>(hs.2 b hb).trans z) he new
theorem dk_new {P:Program} {w:World} {H':Hp} {h':Heap} {kvs:List (Key × V)} {vs:List (Key × Value)} (z:kvs.length<=sizeLine) (hd:(a == sysModules)=false) (rel:KV kvs vs) (dd:h'.DictOf (mixKind P w) a vs) :
 ObjOk P w H' h' a (.dK kvs):=⟨z,hd,vs,rel,dd⟩
theorem d_setItem {H':Hp} {Q:Unit->Shared->Prop} (hu:A.units+1<cLine) (I:Inv X pins σ H s) (g:DPut H a y v H') (ry:RelV y u) (rv:RelV v r) (h:∀s',Inv X pins σ H' s'->Q () s') :
  wpAny (model X.prog X.w) A (setItem (.ref a) u r) Q E s:=by
 rcases g with ⟨kvs,k,e,ey,l,eH⟩|⟨kvs,k,b,e,ey,eb,l,eH⟩
 · subst ey eH
   obtain ⟨z,hd,vs,rel,dd⟩:=dk_of I.hok e
   have hz:vs.length<=sizeLine:=by rw [<-rel.length];exact z
   have hl:(putK kvs k v).length<=sizeLine:=by have:=length_putK kvs k v;omega
   refine wpAny_setItem_pairs (hsz:=hz) (kV_is ry) dd fun h' dd' hs=>h _ ?_
   have he:∃q,h'.get? a=some q:=let ⟨q,_,_,hq,_⟩:=dd';⟨q,hq⟩
   exact d_write I (by rw [e];exact True.intro) hs he (dk_new hl hd (rel.put k rv) dd')
 · subst ey eH
   cases (show u=Value.ref b from ry)
   obtain ⟨z,hd,xs,rel,dd⟩:=dt_of I.hok e
   have hz:xs.length<=sizeLine:=by rw [<-Paired.length rel];exact z
   have hl:(putK kvs k v).length<=sizeLine:=by have:=length_putK kvs k v;omega
   refine wpAny_setItem_heap (hsz:=hz) (tupleKind_room_in1 hu) (key_of I.hok eb) dd fun h' dd' hs=>h _ ?_
   obtain ⟨q,es,ep,hq,h2,h3,h4,_,h5⟩:=dd'
   refine d_write I (by rw [e];exact True.intro) hs ⟨q,hq⟩ ⟨hl,hd,_,(rel.put k eb rv).keeps fun c ys ec=>?_,q,es,ep,hq,h2,h3,h4,h5⟩
   rw [upd_ne (ne_of ec e (fun z=>nomatch z))]
   exact ec
end
section
variable {X:Cx} {pins:List (Addr × Obj)} {σ:St} {H:Hp} {s:Shared} {a:Addr} {kvs:List (Key × V)} {k:Key} {u:Value} {A:Around} {E:Value->Shared->Prop}
theorem d_len {Q:Value->Shared->Prop} (I:Inv X pins σ H s) (e:Rd H a (.dK kvs)) (h:∀t s',Inv X pins σ H s'->Q (.int kvs.length t) s'):wpAny (model X.prog X.w) A (call (.builtin "len") [.ref a]) Q E s:=by
 obtain ⟨z,hd,vs,rel,dd⟩:=dk_rd I.hok e
 refine call_len_dict hd dd (by rw [<-rel.length];rw [sizeLine_eq] at z;omega) ?_
 rw [<-rel.length]
 exact h _ _ (I.tok _)
end
noncomputable def sDPut (td ty tv:TE):TS:=fun D σ H=>tv σ H fun v H1=>td σ H1 fun x H2=>ty σ H2 fun y H3=>∃a H4,x=.ref a/\DPut H3 a y v H4/\D.nx σ H4
section
variable {X:Cx} {o i e value:Expr} {pos pos' tpos:Pos} {td ty tv:TE}
theorem ps_dput (hu:X.A.units+1<cLine) (ho:PE X o td) (hi:PE X i ty) (hv:PE X value tv) (hs:swapsWith value (some (.Subscript o i pos')) pos.line X.env=pure false) :
  PS X (.Assign [.Subscript o i pos'] value pos) (sDPut td ty tv):=by
 intro pins s σ H D I h
 refine wpAny_Assign_Subscript (thn (hv pins s σ H _ I h) fun r s1 ⟨v,H1,I1,rv,q1⟩=>thn (ho pins s1 σ H1 _ I1 q1) fun u s2 ⟨x,H2,I2,rx,q2⟩=>thn (hi pins s2 σ H2 _ I2 q2) fun iv s3 ⟨y,H3,I3,ry,a,H4,ex,g,q3⟩=>?_) hs
 subst ex
 obtain rfl:u=Value.ref a:=rx
 exact d_setItem hu I3 g ry rv fun s4 I4=>⟨σ,H4,I4,q3⟩
end
theorem dk_empty {P:Program} {w:World} {H:Hp} (h:Heap) (hb:sysModules<h.objs.size):ObjOk P w H (h.push {cls:=.type "dict",data:=.dict #[]}) h.objs.size (.dK []):=
 ⟨Nat.zero_le _,beq_eq_false_iff_ne.mpr (Ne.symm (Nat.ne_of_lt hb)),[],.nil,Heap.DictOf.new h⟩
theorem dt_empty {P:Program} {w:World} {H:Hp} (h:Heap) (hb:sysModules<h.objs.size):ObjOk P w H (h.push {cls:=.type "dict",data:=.dict #[]}) h.objs.size (.dT []):=
 ⟨Nat.zero_le _,beq_eq_false_iff_ne.mpr (Ne.symm (Nat.ne_of_lt hb)),[],.nil,_,#[],0,Heap.get?_push_size _ rfl,⟨rfl,rfl,rfl⟩,rfl,rfl,List.nodup_nil⟩
noncomputable def tDNewK:TE:=fun _ H Q=>∀p,H p=none->Q (.ref p) (upd H p (.dK []))
noncomputable def tDNewT:TE:=fun _ H Q=>∀p,H p=none->Q (.ref p) (upd H p (.dT []))
section
variable {X:Cx} {pos:Pos}
theorem pe_dnewK:PE X (.Dict [] [] pos) tDNewK:=fun pins s σ H Q I h=>
 wpAny_Dict_empty ⟨.ref s.heap.objs.size,_,I.laid (a:=s.heap.objs.size) (o:=.dK []) (t':=s.toks) (fun _ _ q=>Heap.get?_push_of_some _ q) (Nat.le_refl _) (dk_empty s.heap I.big),rfl,h _ (I.hok.fresh (Nat.le_refl _))⟩
theorem pe_dnewT:PE X (.Dict [] [] pos) tDNewT:=fun pins s σ H Q I h=>
 wpAny_Dict_empty ⟨.ref s.heap.objs.size,_,I.laid (a:=s.heap.objs.size) (o:=.dT []) (t':=s.toks) (fun _ _ q=>Heap.get?_push_of_some _ q) (Nat.le_refl _) (dt_empty s.heap I.big),rfl,h _ (I.hok.fresh (Nat.le_refl _))⟩
end
structure M1 (X:Cx) (o:Expr) (m:Str) (apos:Pos) (e:Expr) (cpos:Pos):Prop where
 base:attributeBase o m X.env (eval o X.env)=eval o X.env
 few:((backTo cpos (starEach [e] X.env)).all (fun x=>!x.1)&&(backToKw cpos (keywordEach [] X.env)).all (fun x=>x.1.isSome)
  && decide (([e]:List Expr).length+([]:List Keyword).length+(if ([]:List Keyword).isEmpty then 0 else 1)<30))=true
 line:(apos.endLine == cpos.line)=true
 trees:backTo cpos (starEach [e] X.env)=[(false,eval e X.env)]
structure M2 (X:Cx) (o:Expr) (m:Str) (apos:Pos) (e f:Expr) (cpos:Pos):Prop where
 base:attributeBase o m X.env (eval o X.env)=eval o X.env
 few:((backTo cpos (starEach [e,f] X.env)).all (fun x=>!x.1)&&(backToKw cpos (keywordEach [] X.env)).all (fun x=>x.1.isSome)
  && decide (([e,f]:List Expr).length+([]:List Keyword).length+(if ([]:List Keyword).isEmpty then 0 else 1)<30))=true
 line:(apos.endLine == cpos.line)=true
 trees:backTo cpos (starEach [e,f] X.env)=[(false,eval e X.env),(false,eval f X.env)]
noncomputable def IsD (H:Hp) (a:Addr):Prop:=(∃kvs,Rd H a (.dK kvs))\/∃kvs,Rd H a (.dT kvs)
theorem isD_at {X:Cx} {pins:List (Addr × Obj)} {σ:St} {H:Hp} {s:Shared} {a:Addr} (I:Inv X pins σ H s) (d:IsD H a) :
  s.TypeIs (.ref a) "dict"/\(∀b,Value.ref a=.ref b->∃ob,s.heap.get? b=some ob/\ob.dict=none)/\(a == sysModules)=false:=by
 rcases d with ⟨kvs,e⟩|⟨kvs,e⟩
 · obtain ⟨_,hd,vs,_,dd⟩:=dk_rd I.hok e
   refine ⟨dd.typeIs,fun b q=>?_,hd⟩
   cases q
   obtain ⟨ob,_,_,h1,h2,_⟩:=dd
   exact ⟨ob,h1,h2.2.1⟩
 · obtain ⟨_,hd,xs,_,dd⟩:=dt_rd I.hok e
   refine ⟨dd.typeIs,fun b q=>?_,hd⟩
   cases q
   obtain ⟨ob,_,_,h1,h2,_⟩:=dd
   exact ⟨ob,h1,h2.2.1⟩
section
variable {X:Cx} {pins:List (Addr × Obj)} {σ:St} {H:Hp} {s:Shared} {a:Addr} {y d:V} {u r:Value} {o:Option V} {A:Around} {E:Value->Shared->Prop}
theorem d_get2 {Q:Value->Shared->Prop} (hu:A.units+1<cLine) (I:Inv X pins σ H s) (g:DGet H a y o) (ry:RelV y u) (rd:RelV d r) (h:∀w' s',Inv X pins σ H s'->RelV (o.getD d) w'->Q w' s') :
  wpAny (model X.prog X.w) A (call (.builtin "dict.get") [.ref a,u,r]) Q E s:=by
 rcases g with ⟨kvs,k,e,ey,l⟩|⟨kvs,k,b,e,ey,eb,l⟩
 · subst ey
   obtain ⟨z,hd,vs,rel,dd⟩:=dk_rd I.hok e
   refine call_meetsIn PySem.F.slot_dict_get dd.typeIs PySem.F.entry_dict_get (PySem.F.args_dict_get_3 _ _ _) (meets_dict_get_default (mixKind X.prog X.w) a (kV_is ry) hd r) ⟨_,dd.mapOf,h _ _ (I.tok _) ?_⟩
   rw [l]
   exact (rel.val k).getD rd
 · subst ey
   cases (show u=Value.ref b from ry)
   obtain ⟨z,hd,xs,rel,dd⟩:=dt_rd I.hok e
   refine call_meetsIn PySem.F.slot_dict_get dd.typeIs PySem.F.entry_dict_get (PySem.F.args_dict_get_3 _ _ _) (meetsH_dict_get_default (tupleKind (mixKind X.prog X.w)) a b hd r) ⟨tupleKind_room_in1 hu,k,xs,key_of I.hok eb,dd,h _ _ (I.tok _) ?_⟩
   rw [l]
   exact (rel.val k).getD rd
end
noncomputable def tDGet2 (td ty tx:TE):TE:=fun σ H Q=>td σ H fun x H1=>∃a,x=.ref a/\IsD H1 a/\ty σ H1 fun y H2=>tx σ H2 fun z H3=>∃o,DGet H3 a y o/\Q (o.getD z) H3
section
variable {X:Cx} {o e f:Expr} {apos cpos:Pos} {td ty tx:TE}
theorem pe_dget2 (hu:X.A.units+1<cLine) (ho:PE X o td) (he:PE X e ty) (hf:PE X f tx) (m:M2 X o "get" apos e f cpos):PE X (.Call (.Attribute o "get" apos) [e,f] [] cpos) (tDGet2 td ty tx):=by
 intro pins s σ H Q I h
 refine wpAny_Call_method m.base m.few m.line PySem.F.plainAttrs_dict PySem.F.slot_dict_get PySem.F.type_dict_get (thn (ho pins s σ H _ I h) fun u s1 ⟨x,H1,I1,rx,a,ex,d,q1⟩=>?_)
 subst ex
 obtain rfl:u=Value.ref a:=rx
 obtain ⟨t1,t2,_⟩:=isD_at I1 d
 refine ⟨t1,t2,?_⟩
 rw [m.trees]
 refine Calls.callWith_builtin rfl (Calls.evalArgs_plain (Calls.spliced_cons (thn (he pins s1 σ H1 _ I1 q1) fun iv s2 ⟨y,H2,I2,ry,q2⟩=>
  Calls.spliced_cons (thn (hf pins s2 σ H2 _ I2 q2) fun fv s3 ⟨z,H3,I3,rz,ov,g,q3⟩=>Calls.spliced_nil ?_))))
 exact d_get2 hu I3 g ry rz fun w' s4 I4 rw'=>⟨_,H3,I4,rw',q3⟩
end
section
variable {X:Cx} {pins:List (Addr × Obj)} {σ:St} {H:Hp} {s:Shared} {a:Addr} {kvs:List (Key × V)} {A:Around} {E:Value->Shared->Prop}
end
section
variable {X:Cx} {pins:List (Addr × Obj)} {σ:St} {H:Hp} {s:Shared} {a:Addr} {y:V} {u:Value} {A:Around} {E:Value->Shared->Prop}
end
end L2
namespace HT
open PySem PyProof.Rows
noncomputable def lexLt:List Int->List Int->Bool
 | [],[]=>false
 | [],_::_=>true
 |_::_,[]=>false
 |x::xs,y::ys=>if x=y then lexLt xs ys else decide (x<y)
theorem lexLt_cons (x y:Int) (xs ys:List Int):lexLt (x::xs) (y::ys)=if x=y then lexLt xs ys else decide (x<y):=rfl
theorem lexLt_nil_nil:lexLt [] []=false:=rfl
theorem lexLt_nil_cons (y:Int) (ys:List Int):lexLt [] (y::ys)=true:=rfl
theorem lexLt_cons_nil (x:Int) (xs:List Int):lexLt (x::xs) []=false:=rfl
theorem eqAt_int (A:Around) (s:Shared) (a:Int) (t:Tok) (c:Int) (u:Tok):∃e,SeqAt.EqAt A s (.int a t) (.int c u) e/\(e=true↔a=c):=
 ⟨(a == c),SeqAt.EqAt.int_int a t c u,by simp⟩
theorem rcLt_int (A:Around) (s:Shared) (a:Int) (t:Tok) (c:Int) (u:Tok) (prog:Program) (w:World) (E:Value->Shared->Prop) (Q:Value->Shared->Prop) (h:Q (.bool (decide (a<c))) s) :
  wpAny (model prog w) A (richCompare .Lt (.int a t) (.int c u)) Q E s:=
 (PyProof.Rows.lt_int h:wpAny (model prog w) A (compareOp .Lt (.int a t) (.int c u)) Q E s)
section
open PySem.SeqAt
open PySem.AutoSeq1 (wpAny_loadPart')
open PySem.MeetsSeq PySem.MeetsSeq2 PySem.MeetsSeq3
theorem tuple_lt_ints (l b:Addr) (items items2:Array Value) (n n2:Nat) (dd dd2:Option Addr) (sl sl2:Array (Option Value)) (ns ms:List Int) (hi:IntsAre items.toList ns) (hj:IntsAre items2.toList ms) :
  Meets (Builtin.«tuple.__lt__» ⟨[.ref l,.ref b],[]⟩)
   (fun _ R s=>s.heap.get? l=some {cls:=.type "tuple",dict:=dd,data:=.seq items n,slots:=sl}/\s.heap.get? b=some {cls:=.type "tuple",dict:=dd2,data:=.seq items2 n2,slots:=sl2}/\
    R (.ok (.ret (.bool (lexLt ns ms)))) s):=
 .of_wp fun prog w A R s h=>by
  obtain ⟨hp,g,d,tk,os⟩:=s;obtain ⟨hl,hb,h⟩:=h
  have f2:=AutoSeq1.sub_tuple_tuple
  have z1:items.size=ns.length:=by rw [<-hi.length];simp
  have z2:items2.size=ms.length:=by rw [<-hj.length];simp
  wp_walk using wpAny_loadPart' hl,wpAny_loadPart' hb,wpAny_forIn_list _ (fun rest b s'=>b.1=none/\s'=⟨hp,g,d,tk,os⟩/\∃(vs ws:List Value) (ns' ms':List Int),rest=vs.zip ws/\
   IntsAre vs ns'/\IntsAre ws ms'/\ns'.length+items2.size=ms'.length+items.size/\R (.ok (.ret (.bool (lexLt ns' ms')))) ⟨hp,g,d,tk,os⟩) _
  case turn=>
   rintro ⟨y,x⟩ rest b s' ⟨hb',rfl,vs,ws,ns',ms',hz,hvi,hwi,hlen,hR⟩
   cases hvi with
   |nil=>rw [List.zip_nil_left] at hz;cases hz
   | cons a t hvi' =>
     cases hwi with
     |nil=>rw [List.zip_nil_right] at hz;cases hz
     | cons c u hwi' =>
       rw [List.zip_cons_cons] at hz
       injection hz with hyx hrest
       injection hyx with hy hx
       subst hy hx
       rw [lexLt_cons] at hR
       simp only [List.length_cons] at hlen
       obtain ⟨e,he,hiff⟩:=eqAt_int A.in1 ⟨hp,g,d,tk,os⟩ a t c u
       refine wpAny_bind (he prog w _ _ ?_)
       cases e with
       | true =>
         rw [if_pos (hiff.mp rfl)] at hR
         wp_walk
         exact ⟨rfl,rfl,_,_,_,_,hrest,hvi',hwi',by omega,hR⟩
       | false =>
         rw [if_neg (fun q=>absurd (hiff.mpr q) Bool.false_ne_true)] at hR
         have hri:=rcLt_int A.in1 ⟨hp,g,d,tk,os⟩ a t c u prog w
         wp_walk using hri
         exact ⟨_,rfl,by simpa using hR⟩
  case fin=>
   rintro ⟨b1,b2⟩ s' ⟨hb',rfl,vs,ws,ns',ms',hz,hvi,hwi,hlen,hR⟩
   simp only at hb'
   subst hb'
   have hv:lexLt ns' ms'=decide (items.size<items2.size):=by
    cases hvi with
    | nil =>
      cases hwi with
      | nil =>
        simp only [List.length_nil] at hlen
        rw [lexLt_nil_nil]
        exact (decide_eq_false (by omega)).symm
      | cons c u hw =>
        simp only [List.length_nil,List.length_cons] at hlen
        rw [lexLt_nil_cons]
        exact (decide_eq_true (by omega)).symm
    | cons a t hv =>
      cases hwi with
      | nil =>
        simp only [List.length_nil,List.length_cons] at hlen
        rw [lexLt_cons_nil]
        exact (decide_eq_false (by omega)).symm
      | cons c u hw =>
        rw [List.zip_cons_cons] at hz
        cases hz
   rw [hv] at hR
   wp_walk
   exact ⟨_,rfl,by simpa [Builtin.Tuple.tupleCompareSizes] using hR⟩
  case h=>
   exact ⟨rfl,rfl,items.toList,items2.toList,ns,ms,rfl,hi,hj,by omega,h⟩
end
section
variable {prog:Program} {w:World} {A:Around} {E:Value->Shared->Prop} {s:Shared}
theorem lt_tupInts {l b:Addr} {items items2:Array Value} {ns ms:List Int} {Q:Value->Shared->Prop} (hl:IsTup s.heap l items) (hb:IsTup s.heap b items2) (hi:IntsAre items.toList ns) (hj:IntsAre items2.toList ms)
  (hu:A.units<cLine) (h:Q (.bool (lexLt ns ms)) s):wpAny (model prog w) A (compareOp .Lt (.ref l) (.ref b)) Q E s:=by
 obtain ⟨⟨cls,dd,data,sl⟩,ho,hc,n,hd⟩:=id hl
 obtain ⟨⟨cls2,dd2,data2,sl2⟩,ho2,hc2,n2,hd2⟩:=id hb
 simp only at hc hd hc2 hd2
 subst hc hd hc2 hd2
 exact richCompare_meets_room (op:=.Lt) ⟨_,ho,rfl⟩ ⟨_,ho2,rfl⟩ PySem.F.slot_tuple_lt PySem.F.entry_tuple_lt (PySem.F.args_tuple_lt_2 _ _) (tuple_lt_ints l b items items2 n n2 dd dd2 sl sl2 ns ms hi hj)
  ⟨ho,ho2,show Value.bool (lexLt ns ms)≠Value.notImplemented/\Q (.bool (lexLt ns ms)) s from ⟨(fun x=>nomatch x),h⟩⟩ hu
theorem cat_tup {t b:Addr} {vs ws:List Value} {Q:Value->Shared->Prop} (ht:IsTup s.heap t vs.toArray) (hb:IsTup s.heap b ws.toArray) (hv:vs≠[])
  (h1:ws=[]->Q (.ref t) s) (h2:ws≠[]->Q (.ref s.heap.objs.size) {s with heap:=s.heap.push {cls:=.type "tuple",data:=.seq (vs++ws).toArray}})
  (hsz:vs.length+ws.length<=sizeLine):wpAny (model prog w) A (binaryOp .Add (.ref t) (.ref b)) Q E s:=by
 obtain ⟨⟨cls,dd,data,sl⟩,ho,hc,n,hd⟩:=id ht
 obtain ⟨⟨cls2,dd2,data2,sl2⟩,ho2,hc2,n2,hd2⟩:=id hb
 simp only at hc hd hc2 hd2
 subst hc hd hc2 hd2
 have e:vs.toArray++ws.toArray=(vs++ws).toArray:=by simp
 by_cases hw:ws=[]
 · exact concat_meets ⟨_,ho,rfl⟩ ⟨_,ho2,rfl⟩ noFill_tuple_add seq_tuple_add PySem.F.slot_tuple_add PySem.F.entry_tuple_add (PySem.F.args_tuple_add_2 _ _)
    (tuple_addW1 t b vs.toArray ws.toArray n n2 dd dd2 sl sl2 (by simpa using hv) (by simp [hw])) ⟨ho,ho2,h1 hw⟩
 · refine concat_meets ⟨_,ho,rfl⟩ ⟨_,ho2,rfl⟩ noFill_tuple_add seq_tuple_add PySem.F.slot_tuple_add PySem.F.entry_tuple_add (PySem.F.args_tuple_add_2 _ _)
    (tuple_addW2 t b vs.toArray ws.toArray n n2 dd dd2 sl sl2 (by simpa using hv) (by simpa using hw) (by rw [List.size_toArray,List.size_toArray];exact hsz)) ⟨ho,ho2,?_⟩
   rw [e]
   exact h2 hw
end
end HT
namespace L2
open PySem PySem.Spec PyProof.Rows
theorem intsAre_of {ns:List Int}:∀{us:List Value},Vals (ns.map V.int) us->IntsAre us ns:=by
 induction ns with
 |nil=>intro us r;rw [List.map_nil] at r;cases r;exact .nil
 | cons n ns ih =>
   intro us r
   rw [List.map_cons] at r
   cases r with
   | cons r1 r2 =>
     obtain ⟨t,e⟩:=r1
     subst e
     exact .cons n t (ih r2)
section
variable {X:Cx} {e:Expr} {te:TE} {lo hi:Option Expr} {tl th:TO} {pos p2:Pos}
noncomputable def rLtT (K:PySem.W.Frag):R2:=fun x y H Q=>∃a b ns ms,x=.ref a/\y=.ref b/\SqT K H a (ns.map V.int)/\SqT K H b (ms.map V.int)/\Q (.bl (HT.lexLt ns ms)) H
theorem op_ltT (hu:X.A.units<cLine):OpR X (compareOp .Lt) (rLtT X.K):=by
 intro pins s σ H x y v u Q I rx ry h
 obtain ⟨a,b,ns,ms,rfl,rfl,ha,hb,q⟩:=h
 cases rx
 cases ry
 obtain ⟨its,r1,p1,_⟩:=I.tuple ha
 obtain ⟨its2,r2,p2,_⟩:=I.tuple hb
 have i1:IntsAre its.toArray.toList ns:=intsAre_of r1
 have i2:IntsAre its2.toArray.toList ms:=intsAre_of r2
 exact HT.lt_tupInts p1 p2 i1 i2 hu ⟨.bl (HT.lexLt ns ms),H,I,rfl,q⟩
noncomputable def rCatT (K:PySem.W.Frag):R2:=fun x y H Q=>∃a b xs ys,x=.ref a/\y=.ref b/\SqT K H a xs/\SqT K H b ys/\xs≠[]/\xs.length+ys.length<=sizeLine/\
 (ys=[]->Q (.ref a) H)/\(ys≠[]->∀p,H p=none->Q (.ref p) (upd H p (.tup (xs++ys))))
theorem Vals.nil_iff {xs:List V} {us:List Value} (r:Vals xs us):us=[]↔xs=[]:=by
 cases r with
 |nil=>simp
 |cons _ _=>simp
theorem op_catT:OpR X (binaryOp .Add) (rCatT X.K):=by
 intro pins s σ H x y v u Q I rx ry h
 obtain ⟨a,b,xs,ys,rfl,rfl,ha,hb,hx,hz,q1,q2⟩:=h
 cases rx
 cases ry
 obtain ⟨its,r1,p1,_⟩:=I.tuple ha
 obtain ⟨its2,r2,p2,_⟩:=I.tuple hb
 refine HT.cat_tup p1 p2 (fun z=>hx (r1.nil_iff.mp z)) (fun z=>⟨.ref a,H,I,rfl,q1 (r2.nil_iff.mp z)⟩) (fun z=>?_) (by rw [<-r1.length,<-r2.length];exact hz)
 refine ⟨.ref s.heap.objs.size,_,I.laid (t':=s.toks) (o:=.tup (xs++ys)) (fun b ob q=>Heap.get?_push_of_some _ q) (Nat.le_refl _) ?_,rfl,q2 (fun w=>z (r2.nil_iff.mpr w)) _ (I.hok.fresh (Nat.le_refl _))⟩
 exact ⟨by rw [List.length_append];exact hz,_,r1.append r2,IsTup.new _ _⟩
end
end L2
namespace L2
open PySem PySem.Spec PyProof.Rows
noncomputable def ixN (n:Nat) (i:Int):Option Nat:=if 0<=i then (if i<n then some i.toNat else none) else if -(n:Int)<=i then some (i+n).toNat else none
noncomputable def atI {α:Type} (xs:List α) (i:Int):Option α:=(ixN xs.length i).bind fun j=>xs[j]?
theorem ixN_seq {n:Nat} {i:Int} {j:Nat} (h:ixN n i=some j):seqIndex? i n=some j/\j<n/\-(n:Int)<=i/\i<n:=by
 unfold ixN at h
 by_cases h0:0<=i
 · rw [if_pos h0] at h
   by_cases h1:i<n
   · rw [if_pos h1] at h
     have e:i.toNat=j:=Option.some.inj h
     exact ⟨by rw [seqIndex_of h0 h1,e],by omega,by omega,h1⟩
   · rw [if_neg h1] at h;cases h
 · rw [if_neg h0] at h
   by_cases h1:-(n:Int)<=i
   · rw [if_pos h1] at h
     have e:(i+n).toNat=j:=Option.some.inj h
     exact ⟨by rw [seqIndex_neg (by omega) h1,e],by omega,h1,by omega⟩
   · rw [if_neg h1] at h;cases h
theorem atI_get {α:Type} {xs:List α} {i:Int} {v:α} (h:atI xs i=some v):∃j,seqIndex? i xs.length=some j/\xs[j]?=some v/\j<xs.length/\-(xs.length:Int)<=i/\i<xs.length:=by
 unfold atI at h
 cases e:ixN xs.length i with
 |none=>rw [e] at h;cases h
 | some j =>
   rw [e] at h
   obtain ⟨h1,h2,h3,h4⟩:=ixN_seq e
   exact ⟨j,h1,h,h2,h3,h4⟩
noncomputable def PlainIx (b:Expr):Prop:=∀o i,subscripted b false o i=operate [o,i] (getItem o i)
noncomputable def IxR (X:Cx) (r:R2):Prop:=
 ∀(value slice:Expr) (pins:List (Addr × Obj)) (s:Shared) (σ:St) (H:Hp) (x y:V) (v u:Value) (Q:VK),Inv X pins σ H s->RelV x v->RelV y u->r x y H Q->
  subscripted slice false v u=operate [v,u] (getItem v u)->wpAny (model X.prog X.w) X.A (subscriptTail value slice v u) (EP X pins σ Q) X.xe s
noncomputable def MtR (X:Cx) (id:String) (r:V->List V->Hp->VK->Prop):Prop:=
 ∀(pins:List (Addr × Obj)) (s:Shared) (σ:St) (H:Hp) (x:V) (xs:List V) (v:Value) (us:List Value) (Q:VK),Inv X pins σ H s->RelV x v->Vals xs us->r x xs H Q->
  wpAny (model X.prog X.w) X.A (call (.builtin id) (v::us)) (EP X pins σ Q) X.xe s
section
variable {X:Cx} {a b:Expr} {ta tb:TE} {pos:Pos}
theorem IxR.or {r r':R2} (h:IxR X r) (h':IxR X r'):IxR X (fun x y H Q=>r x y H Q\/r' x y H Q):=by
 intro value slice pins s σ H x y v u Q I rx ry q hs
 rcases q with q|q
 · exact h value slice pins s σ H x y v u Q I rx ry q hs
 · exact h' value slice pins s σ H x y v u Q I rx ry q hs
theorem pe_ix {r:R2} (hr:IxR X r) (ha:PE X a ta) (hb:PE X b tb) (hs:PlainIx b):PE X (.Subscript a b pos) (tOp r ta tb):=by
 intro pins s σ H Q I h
 exact Subscript_ (binT ha hb I h fun v u s2 x y H2 I2 rx ry q=>hr a b pins s2 σ H2 x y v u Q I2 rx ry q (hs _ _))
noncomputable def rIxL (K:PySem.W.Frag):R2:=fun x y H Q=>∃p xs i v,x=.ref p/\y=.int i/\SqL K H p xs/\atI xs i=some v/\Q v H
noncomputable def rIxT (K:PySem.W.Frag):R2:=fun x y H Q=>∃p xs i v,x=.ref p/\y=.int i/\SqT K H p xs/\atI xs i=some v/\Q v H
noncomputable def rIxS:R2:=fun x y H Q=>∃z i c,x=.str z/\y=.int i/\z.length<=sizeLine/\atI z.cps.toList i=some c/\Q (.str ⟨#[c]⟩) H
theorem ix_list:IxR X (rIxL X.K):=by
 intro value slice pins s σ H x y v u Q I rx ry h hs
 obtain ⟨p,xs,i,z,rfl,rfl,hq,he,q⟩:=h
 cases rx
 obtain ⟨t,rfl⟩:=ry
 obtain ⟨its,r,pl,hz⟩:=I.list hq
 obtain ⟨j,h1,h2,h3,h4,h5⟩:=atI_get he
 obtain ⟨w,ew,rw'⟩:=r.get h2
 have hl:=r.length
 have hn:=line63
 have fin:EP X pins σ Q w s:=⟨z,H,I,rw',q⟩
 by_cases h0:0<=i
 · have hj:i.toNat=j:=by
    rw [seqIndex_of h0 h5] at h1
    exact Option.some.inj h1
   exact item_listR pl.isList h0 (by omega) (by rw [hj];simpa using ew) fin hs
 · have hj:(i+(its.toArray.size:Int)).toNat=j:=by
    rw [seqIndex_neg (by omega) h4] at h1
    rw [List.size_toArray,<-hl]
    exact Option.some.inj h1
   exact subscriptTail_builtinR (x:=w) pl.isList.typeIs slot_list_getitem.lookup
    (wpAny_getItem_list_neg (Q:=fun r s'=>r=w/\EP X pins σ Q r s') pl.isList (by omega) (by rw [List.size_toArray]<;>omega) (by omega) (by rw [hj];simpa using ew) ⟨rfl,fin⟩) hs
theorem ix_tup:IxR X (rIxT X.K):=by
 intro value slice pins s σ H x y v u Q I rx ry h hs
 obtain ⟨p,xs,i,z,rfl,rfl,hq,he,q⟩:=h
 cases rx
 obtain ⟨t,rfl⟩:=ry
 obtain ⟨its,r,pl,hz⟩:=I.tuple hq
 obtain ⟨j,h1,h2,h3,h4,h5⟩:=atI_get he
 obtain ⟨w,ew,rw'⟩:=r.get h2
 have hl:=r.length
 have hn:=line63
 have fin:EP X pins σ Q w s:=⟨z,H,I,rw',q⟩
 exact subscriptTail_builtinR (x:=w) pl.typeIs slot_tuple_getitem.lookup
  (getItem_tuple (j:=j) (Q:=fun r s'=>r=w/\EP X pins σ Q r s') pl (by omega) (by omega) (by rw [List.size_toArray,<-hl];exact h1) (by simpa using ew) ⟨rfl,fin⟩) hs
theorem ix_str:IxR X rIxS:=by
 intro value slice pins s σ H x y v u Q I rx ry h hs
 obtain ⟨z,i,c,rfl,rfl,hz,he,q⟩:=h
 obtain ⟨t,rfl⟩:=rx
 obtain ⟨t',rfl⟩:=ry
 obtain ⟨j,h1,h2,h3,h4,h5⟩:=atI_get he
 have hl:z.cps.toList.length=z.length:=by simp [Str.length]
 rw [hl] at h1 h4 h5
 have hn:=line63
 exact tail_any (typeIs_str s z t) slot_str_getitem.lookup (getItem_str (c:=c) (by
  have e1:decide (i < -(2 ^ 63:Int))=false:=decide_eq_false (by omega)
  have e2:decide (i≥2 ^ 63)=false:=decide_eq_false (by omega)
  rw [e1,e2,Bool.or_false]) (by rw [h1];simpa using h2) ⟨.str ⟨#[c]⟩,H,I.tok _,⟨_,rfl⟩,q⟩) hs
noncomputable def rIx (K:PySem.W.Frag):R2:=fun x y H Q=>rIxL K x y H Q\/rIxT K x y H Q\/rIxS x y H Q
theorem ix_seq:IxR X (rIx X.K):=ix_list.or (ix_tup.or ix_str)
theorem Inv.lst {pins:List (Addr × Obj)} {σ:St} {H:Hp} {s:Shared} {p:Addr} {xs:List V} (I:Inv X pins σ H s) (h:H p=some (.lst xs)) :
  ∃(its:List Value) (n:Nat),Vals xs its/\s.heap.get? p=some {cls:=.type "list",data:=.seq its.toArray n}/\xs.length<=sizeLine:=by
 obtain ⟨z,its,n,r,e⟩:=I.hok p _ h
 exact ⟨its,n,r,e,z⟩
theorem call_len_seq:CallR X (.builtin "len") (fun xs H Q=>∃p ys,xs=[.ref p]/\(SqL X.K H p ys\/SqT X.K H p ys)/\Q (.int ys.length) H):=by
 intro pins s σ H xs us Q I r h
 obtain ⟨p,ys,rfl,hq,q⟩:=h
 obtain ⟨u,rfl,rx⟩:=vals1 r
 cases rx
 have hn:=line63
 rcases hq with hq|hq
 · obtain ⟨its,r',pl,hz⟩:=I.list hq
   have hlen:=r'.length
   exact Calls.call_len_list pl.isList (by simp only [List.size_toArray]<;>omega) ⟨.int ys.length,H,I.tok _,⟨s.toks+1,by rw [List.size_toArray,hlen]⟩,q⟩
 · obtain ⟨its,r',pl,hz⟩:=I.tuple hq
   have hlen:=r'.length
   exact len_tuple pl (by simp only [List.size_toArray]<;>omega) ⟨.int ys.length,H,I.tok _,⟨s.toks+1,by rw [List.size_toArray,hlen]⟩,q⟩
theorem call_list_of:CallR X (.type "list") (fun xs H Q=>∃p ys,xs=[.ref p]/\(SqL X.K H p ys\/SqT X.K H p ys)/\∀l,H l=none->Q (.ref l) (upd H l (.lst ys))):=by
 intro pins s σ H xs us Q I r h
 obtain ⟨p,ys,rfl,hq,q⟩:=h
 obtain ⟨u,rfl,rx⟩:=vals1 r
 cases rx
 have fin:∀(its:List Value),Vals ys its->ys.length<=sizeLine->∀(h':Heap) (c':Nat),(∀b o',s.heap.get? b=some o'->h'.get? b=some o')->
   h'.get? s.heap.objs.size=some {cls:=.type "list",dict:=none,data:=.seq its.toArray c',slots:=#[]}->EP X pins σ Q (.ref s.heap.objs.size) {s with heap:=h'}:=fun its r' hz h' c' kp e=>
  ⟨.ref s.heap.objs.size,_,I.laid (t':=s.toks) kp (Nat.le_refl _) (show ObjOk X.prog X.w _ h' _ (.lst ys) from ⟨hz,its,c',r',e⟩),rfl,q _ (I.hok.fresh (Nat.le_refl _))⟩
 rcases hq with hq|hq
 · obtain ⟨its,r',pl,hz⟩:=I.list hq
   have hlen:=r'.length
   obtain ⟨o,ho,hc,n,hd⟩:=pl.isList
   exact call_list_seq p (.inl rfl) ho hc hd (fun h' c' kp e=>fin its r' hz h' c' kp e) (by simp only [List.size_toArray]<;>omega)
 · obtain ⟨its,r',pl,hz⟩:=I.tuple hq
   have hlen:=r'.length
   obtain ⟨o,ho,hc,n,hd⟩:=pl
   exact call_list_seq p (.inr rfl) ho hc hd (fun h' c' kp e=>fin its r' hz h' c' kp e) (by simp only [List.size_toArray]<;>omega)
noncomputable def tyV (K:PySem.W.Frag) (T:String) (x:V) (H:Hp):Prop:=match x with
 |.str _=>T="str"
 |.int _=>T="int"
 |.ref p=>(T="list"/\∃xs,SqL K H p xs)\/(T="tuple"/\∃o,K.lookup p=some o/\o.cls=.type "tuple"/\o.dict=none)\/
  (T="dict"/\((∃kvs,H p=some (.dK kvs))\/∃kvs,H p=some (.dT kvs)))\/(T="set"/\∃S n,H p=some (.set S n))
 |_=>False
theorem tyV_is {pins:List (Addr × Obj)} {σ:St} {H:Hp} {s:Shared} {T:String} {x:V} {v:Value} (I:Inv X pins σ H s) (r:RelV x v) (ty:tyV X.K T x H) :
  s.TypeIs v T/\∀a,v=.ref a->∃ob,s.heap.get? a=some ob/\ob.dict=none:=by
 cases x with
 | str z =>
   obtain ⟨t,rfl⟩:=r
   cases (show T="str" from ty)
   exact ⟨typeIs_str s z t,fun _ e=>nomatch e⟩
 | int i =>
   obtain ⟨t,rfl⟩:=r
   cases (show T="int" from ty)
   exact ⟨typeIs_int s i t,fun _ e=>nomatch e⟩
 | ref p =>
   cases r
   rcases ty with ⟨rfl,xs,hq⟩|⟨rfl,o,hk,hc,hd⟩|⟨rfl,hk⟩|⟨rfl,S,n,hk⟩
   · obtain ⟨its,_,pl,_⟩:=I.list hq
     refine ⟨pl.isList.typeIs,fun a e=>?_⟩
     cases e
     obtain ⟨o,n,e,c,hd,_⟩:=pl
     exact ⟨o,e,hd⟩
   · refine ⟨⟨o,I.kIn p o hk,hc⟩,fun a e=>?_⟩
     cases e
     exact ⟨o,I.kIn _ o hk,hd⟩
   · have z:∃o,s.heap.get? p=some o/\o.ExactDict:=by
      rcases hk with ⟨kvs,hk⟩|⟨kvs,hk⟩
      · obtain ⟨_,_,_,_,o,_,_,e,ex,_⟩:=I.hok p _ hk
        exact ⟨o,e,ex⟩
      · obtain ⟨_,_,_,_,o,_,_,e,ex,_⟩:=I.hok p _ hk
        exact ⟨o,e,ex⟩
     obtain ⟨o,e,ex⟩:=z
     refine ⟨⟨o,e,ex.1⟩,fun a e2=>?_⟩
     cases e2
     exact ⟨o,e,ex.2.1⟩
   · obtain ⟨o,_,_,_,e,ex,_⟩:=I.hok p _ hk
     refine ⟨⟨o,e,ex.1⟩,fun a e2=>?_⟩
     cases e2
     exact ⟨o,e,ex.2.1⟩
 |_=>exact False.elim ty
noncomputable def tBM0 (K:PySem.W.Frag) (T:String) (r:V->List V->Hp->VK->Prop) (to:TE):TE:=fun σ H Q=>to σ H fun x H1=>tyV K T x H1/\r x [] H1 Q
noncomputable def tBM (K:PySem.W.Frag) (T:String) (r:V->List V->Hp->VK->Prop) (to:TE) (t:TA):TE:=fun σ H Q=>to σ H fun x H1=>tyV K T x H1/\t σ H1 fun xs H2=>r x xs H2 Q
variable {o e:Expr} {es:List Expr} {to:TE} {t:TA} {name:Str} {apos cpos:Pos} {T id:String} {r:V->List V->Hp->VK->Prop}
theorem pe_bm0 (pa:PlainAttrs T) (slot:Slot T name id) (hty:typeOf (.builtin id)=pure (.type "method_descriptor")) (hm:MtR X id r) (ho:PE X o to)
  (hbase:attributeBase o name X.env (eval o X.env)=eval o X.env:=by rfl) (hline:(apos.endLine == cpos.line)=true:=by rfl):PE X (.Call (.Attribute o name apos) [] [] cpos) (tBM0 X.K T r to):=by
 intro pins s σ H Q I h
 refine wpAny_Call_method0_late hbase hline (thn (ho pins s σ H _ I h) fun v s1 ⟨x,H1,I1,r1,ty,q1⟩=>?_)
 obtain ⟨h1,h2⟩:=tyV_is I1 r1 ty
 exact ⟨T,id,pa,slot,hty,h1,h2,Calls.callWith_builtin rfl (PySem.evalArgs_none (hm pins s1 σ H1 x [] v [] Q I1 r1 .nil q1))⟩
theorem pe_bm (pa:PlainAttrs T) (slot:Slot T name id) (hty:typeOf (.builtin id)=pure (.type "method_descriptor")) (hm:MtR X id r) (ho:PE X o to) (ha:PA X (e::es) t)
  (hbase:attributeBase o name X.env (eval o X.env)=eval o X.env:=by rfl)
  (hfew:((backTo cpos (starEach (e::es) X.env)).all (fun x=>!x.1)&&(backToKw cpos (keywordEach [] X.env)).all (fun x=>x.1.isSome)
   && decide ((e::es).length+([]:List Keyword).length+(if ([]:List Keyword).isEmpty then 0 else 1)<30))=true:=by rfl)
  (hline:(apos.endLine == cpos.line)=true:=by rfl) (hs:starEach (e::es) X.env=(false,eval e X.env)::starEach es X.env:=by rfl) (hplain:(backTo cpos (starEach es X.env)).any (·.1)=false:=by rfl) :
  PE X (.Call (.Attribute o name apos) (e::es) [] cpos) (tBM X.K T r to t):=by
 intro pins s σ H Q I h
 refine wpAny_Call_method_late hbase hfew hline rfl (thn (ho pins s σ H _ I h) fun v s1 ⟨x,H1,I1,r1,ty,q1⟩=>?_)
 obtain ⟨h1,h2⟩:=tyV_is I1 r1 ty
 refine ⟨T,id,pa,slot,hty,h1,h2,?_⟩
 have hA:=ha cpos pins s1 σ H1 _ I1 q1
 rw [hs] at hA⊢
 refine Calls.callWith_builtin (by show (false || (backTo cpos (starEach es X.env)).any (·.1))=false;rw [hplain]<;>rfl) (Calls.evalArgs_plain ?_)
 exact thn hA fun us s2 ⟨vs,H2,I2,r2,q2⟩=>hm pins s2 σ H2 x vs v us Q I2 r1 r2 q2
/- xs.append(e),list.index on a module's tuple .. are MtR facts of 06m -/
end
end L2
namespace L2
open PySem PySem.Spec PyProof.Rows
noncomputable def MtM (X:Cx) (id:String) (r:V->List V->Hp->VK->Prop):Prop:=
 ∀(pins:List (Addr × Obj)) (s:Shared) (σ:St) (H:Hp) (x:V) (xs:List V) (v:Value) (us:List Value) (Q:VK),Inv X pins σ H s->RelV x v->Vals xs us->r x xs H Q->
  wpAny (model X.prog X.w) X.A (call (.builtin id) (v::us)) (EP X pins σ Q) X.xe s
theorem Vals.one:∀{x:V} {us:List Value},Vals [x] us->∃u,us=[u]/\RelV x u
 |_,_,.cons r .nil=>⟨_,rfl,r⟩
theorem Vals.zero:∀{us:List Value},Vals [] us->us=[]
 |_,.nil=>rfl
theorem Vals.eraseIdx:∀{xs:List V} {us:List Value} (i:Nat),Vals xs us->Vals (xs.eraseIdx i) (us.eraseIdx i)
 |_,_,_,.nil=>.nil
 |_,_,0,.cons _ t=>t
 |_,_,i+1,.cons r t=>.cons r (Vals.eraseIdx i t)
theorem len_erase {α:Type}:∀(l:List α) (i:Nat),(l.eraseIdx i).length<=l.length
 | [],_=>Nat.le_refl _
 |_::_,0=>Nat.le_succ _
 |_::r,i+1=>Nat.succ_le_succ (len_erase r i)
section
variable {X:Cx} {pins:List (Addr × Obj)} {σ:St} {H:Hp} {s:Shared} {l b:Addr} {xs ys zs:List V}
theorem Inv.lset {its its':List Value} {n:Nat} {f:Array Value->Array Value} {t':Nat} (I:Inv X pins σ H s) (hH:H l=some (.lst xs))
  (e:s.heap.get? l=some {cls:=.type "list",data:=.seq its.toArray n}) (hf:f its.toArray=its'.toArray) (hv:Vals ys its') (hz:ys.length<=sizeLine) :
  Inv X pins σ (upd H l (.lst ys)) {s with heap:=s.heap.update l (Obj.mapSeq f),toks:=t'}:=by
 have q:=PySem.IsL.update e f
 rw [hf] at q
 refine I.write (x:=l) (e:=l) (by rw [hH];exact trivial) (.inl rfl) (fun b' u hb hu=>(Heap.get?_update_other s.heap (Obj.mapSeq f) (Ne.symm hb)).trans hu) ⟨_,q⟩ ?_
 exact ⟨hz,its',_,hv,q⟩
theorem Inv.lnew {its:List Value} {t':Nat} (I:Inv X pins σ H s) (hv:Vals ys its) (hz:ys.length<=sizeLine) :
  Inv X pins σ (upd H s.heap.objs.size (.lst ys)) {s with heap:=s.heap.push {cls:=.type "list",data:=.seq its.toArray},toks:=t'}:=
 I.laid (fun _ _ q=>Heap.get?_push_of_some _ q) (Nat.le_refl _) ⟨hz,its,0,hv,Heap.get?_push_size _ rfl⟩
theorem Inv.fresh (I:Inv X pins σ H s):H s.heap.objs.size=none:=I.hok.fresh (Nat.le_refl _)
theorem Inv.lstM (I:Inv X pins σ H s) (hH:H l=some (.lst xs)):xs.length<=sizeLine/\∃(its:List Value) (n:Nat),Vals xs its/\xs.length=its.length/\s.heap.get? l=some {cls:=.type "list",data:=.seq its.toArray n}:=by
 obtain ⟨z,its,n,r,e⟩:=I.hok l _ hH
 exact ⟨z,its,n,r,r.length,e⟩
end
section
variable {X:Cx}
noncomputable def rAppend:V->List V->Hp->VK->Prop:=fun x vs H Q=>∃l xs y,x=.ref l/\vs=[y]/\H l=some (.lst xs)/\xs.length<sizeLine/\Q .non (upd H l (.lst (xs++[y])))
theorem mt_append:MtM X "list.append" rAppend:=by
 intro pins s σ H x vs v us Q I rx rv h
 obtain ⟨l,xs,y,rfl,rfl,hH,hz,q⟩:=h
 cases rx
 obtain ⟨u,rfl,ru⟩:=rv.one
 obtain ⟨z,its,n,r,hl,e⟩:=I.lstM hH
 refine call_meets F.slot_list_append ⟨_,e,rfl⟩ F.entry_list_append (F.args_list_append_2 _ _) (PySem.list_append l its.toArray n u (by rw [List.size_toArray];omega)) ⟨e,?_⟩
 refine ⟨.non,_,I.lset (its':=its++[u]) hH e (by simp) (r.append (.cons ru .nil)) ?_,rfl,q⟩
 rw [List.length_append,List.length_singleton]
 omega
noncomputable def rPopAt:V->List V->Hp->VK->Prop:=fun x vs H Q=>∃l xs i k y,x=.ref l/\vs=[.int i]/\H l=some (.lst xs)/\-(2 ^ 63)<=i/\i<2 ^ 63/\seqIndex? i xs.length=some k/\xs[k]?=some y/\Q y (upd H l (.lst (xs.eraseIdx k)))
theorem mt_popAt:MtM X "list.pop" rPopAt:=by
 intro pins s σ H x vs v us Q I rx rv h
 obtain ⟨l,xs,i,k,y,rfl,rfl,hH,h1,h2,hk,hy,q⟩:=h
 cases rx
 obtain ⟨u,rfl,ru⟩:=rv.one
 obtain ⟨t,rfl⟩:=ru
 obtain ⟨z,its,n,r,hl,e⟩:=I.lstM hH
 obtain ⟨w,hw,rw'⟩:=r.get hy
 refine call_meets F.slot_list_pop ⟨_,e,rfl⟩ F.entry_list_pop (F.args_list_pop_2 _ _)
  (MeetsSeq.list_pop_at l its.toArray n i t k w (fitsIndex_both h1 h2) (by rw [List.size_toArray,<-hl];exact hk) (by rw [<-Array.getElem?_toList];exact hw) (by rw [List.size_toArray];omega)) ⟨e,?_⟩
 refine ⟨y,_,I.lset (its':=its.eraseIdx k) hH e ?_ (r.eraseIdx k) ?_,rw',q⟩
 · show its.toArray.eraseIdxIfInBounds k=(its.eraseIdx k).toArray
   rw [List.eraseIdxIfInBounds_toArray]
 · have:=len_erase xs k
   omega
noncomputable def rClear:V->List V->Hp->VK->Prop:=fun x vs H Q=>∃l xs,x=.ref l/\vs=[]/\H l=some (.lst xs)/\Q .non (upd H l (.lst []))
theorem mt_clear:MtM X "list.clear" rClear:=by
 intro pins s σ H x vs v us Q I rx rv h
 obtain ⟨l,xs,rfl,rfl,hH,q⟩:=h
 cases rx
 have hus:=rv.zero
 subst hus
 obtain ⟨z,its,n,r,hl,e⟩:=I.lstM hH
 refine call_meets F.slot_list_clear ⟨_,e,rfl⟩ F.entry_list_clear (F.args_list_clear_1 _) (AutoSeq1.list_clear_list_0 l its.toArray n (by rw [List.size_toArray];omega)) ⟨e,?_⟩
 exact ⟨.non,_,I.lset (its':=[]) (ys:=[]) hH e rfl .nil (Nat.zero_le _),rfl,q⟩
noncomputable def rCat:R2:=fun x y H Q=>∃l b xs zs,x=.ref l/\y=.ref b/\H l=some (.lst xs)/\H b=some (.lst zs)/\xs.length+zs.length<=sizeLine/\∀p,H p=none->Q (.ref p) (upd H p (.lst (xs++zs)))
theorem op_cat:OpR X (binaryOp .Add) rCat:=by
 intro pins s σ H x y v u Q I rx ry h
 obtain ⟨l,b,xs,zs,rfl,rfl,hH,hB,hz,q⟩:=h
 cases rx
 cases ry
 obtain ⟨z,its,n,r,hl,e⟩:=I.lstM hH
 obtain ⟨z2,its2,n2,r2,hl2,e2⟩:=I.lstM hB
 refine PySem.P.add_list e e2 ?_ (by rw [List.size_toArray,List.size_toArray];omega)
 have ea:its.toArray++its2.toArray=(its++its2).toArray:=by simp
 rw [ea]
 exact ⟨.ref _,_,I.lnew (t':=s.toks) (r.append r2) (by rw [List.length_append];omega),rfl,q _ I.fresh⟩
end
section
variable {prog:Program} {w:World} {A:Around} {E:Value->Shared->Prop} {s:Shared}
end
section
variable {X:Cx}
end
end L2
namespace Att
open PySem PySem.W PySem.Calls PyProof.Rows
theorem ints_of_wellAll {P:Params} {h:Heap}:∀(ns:List Int) (vs:List Value),WellAll P h vs (ns.map WData.int)->IntsAre vs ns:=by
 intro ns
 induction ns with
 | nil =>
   intro vs w
   rw [List.map_nil] at w
   cases w
   exact .nil
 | cons n ns ih =>
   intro vs w
   rw [List.map_cons] at w
   cases w with
   | cons a b =>
     cases a
     exact .cons _ _ (ih _ b)
theorem script_of {l:OpenLaw} {n:Nat} (hn:l.most=some n) {P:Params} {h:Heap} {args:List WData} {vals:List Value}
  (hpre:l.row.toRowW.claim.pre args=true) (hwl:WellAll P h vals args) :
  ∃a vs ns,vals=[Value.ref a]/\args=[WData.list (ns.map WData.int)]/\h.get? a=some {cls:=.type "list",data:=.seq vs.toArray}/\IntsAre vs ns/\ns.length<=n:=by
 have hsh:WShape.hasAll [] args [.list .int]=true:=(pre_splitW hpre).1
 have hc:l.pre.holds [] {args:=args}=true:=(pre_splitW hpre).2
 obtain ⟨d,r,rfl,h1,h2⟩:=hasAllW_cons hsh
 obtain rfl:=hasAllW_nil h2
 obtain ⟨xs,rfl,h3⟩:=hasW_list h1
 obtain ⟨ns,rfl⟩:=items_int h3
 have hlen:ns.length<=n:=by
  unfold OpenLaw.pre at hc
  have h4:(WTm.not (.lt (.lit (.int (n:Int))) (.len (.arg 0)))).holds [] {args:=[.list (ns.map .int)]}=true:=by
   have h4:=(holds_andW hc).1
   rw [hn] at h4
   exact h4
  have h5:=condW_of h4 (w_not (w_lt w_lit (w_len_list (w_arg rfl))))
  rw [List.length_map] at h5
  refine Nat.le_of_not_lt fun q=>?_
  have q':(n:Int)<((ns.length:Nat):Int):=by omega
  first
   |(rw [decide_eq_true q'] at h5;exact absurd h5 (by decide))
   |(simp at h5;omega)
 cases hwl with
 | cons w1 w2 =>
   cases w2
   cases w1 with
   |list ho hall=>exact ⟨_,_,ns,rfl,rfl,ho,ints_of_wellAll ns _ hall,hlen⟩
theorem post_true (l:OpenLaw) (args:List WData):l.row.toRowW.claim.post args (.bool true) args=true:=
 postW_of (r:=l.row.toRowW) (X:=(true == true))
  (show WShape.has [] (.bool true) .bool=true by first|rfl|decide|simp [WShape.has,WShape.arms,WShape.armsAll])
  (show (WTm.eq .res (.lit (.bool true))).value [] {args:=args,res:=some (.bool true),after:=args}=some (.bool (true == true)) from w_eq_bool (w_res rfl) w_lit) rfl
theorem attach_call {l:OpenLaw} {n:Nat} {q:Program} {loose:List Str} {XP:(Str->Option Value)->Heap->Prop} {YP:World->Heap->Prop} {d:DefRec}
  (hn:l.most=some n) (hdf:d.params.defaults=[])
  (call:∀(w:World) (s₀ s₁:Shared) (mg mb:Str->Option Value) (fa:Addr) (o:Obj) (pm cd doc:Value) (a:Addr) (vs:List Value) (ns:List Int),
   Ground q loose [] XP w s₀ mg mb s₁.heap->YP w s₁.heap->
   s₁.heap.get? fa=some o->o.data=.func (docDef d.name d.params d.body d.scope pm cd doc)->s₁.heap.CodeRec cd d.name->mg d.name=some (.ref fa)->
   s₁.heap.get? a=some {cls:=.type "list",data:=.seq vs.toArray}->IntsAre vs ns->ns.length<=n->s₁.gens = #[]->
   codeAny (model l.prog w) callerA (.call (.ref fa) ⟨[.ref a],[]⟩) (fun r s'=>r=.ok (.ret (.bool true))/\OldK s₁.heap s'.heap/\s'.os=s₁.os/\AllBare s'.gens) s₁) :
  WalkO q loose XP YP l.row.toRowW d [] (fun f vs=>PySem.call f vs):=by
 intro w s₀ s₁ mg mb G Y fa o pm cd doc dV kV ho hd hcd hD hmg hg args vals as hpre hlay hrd hwl hlo
 obtain rfl:dV=.none:=Dflts.none hD hdf
 obtain rfl:kV=.none:=Dflts.noKw hD
 obtain ⟨a,vs,ns,rfl,rfl,hobj,hints,hlen⟩:=script_of hn hpre hwl
 refine enter_call (codeAny_mono (call w s₀ s₁ mg mb fa o pm cd doc a vs ns G Y ho (fd_plain hd) hcd hmg hobj hints hlen hg) fun r s' hq=>?_)
 obtain ⟨rfl,h2,h3,h4⟩:=hq
 exact ⟨.inl ⟨.bool true,.bool true,[],rfl,fun _=>rfl,.bool true,post_true l _,fun _=>⟨List.Pairwise.nil,fun _ hm=>(nomatch hm)⟩⟩,h2,h3,h4⟩
section
variable {prog:Program} {w:World} {A:Around} {E:Value->Shared->Prop} {s:Shared} {K:Frag}
end
end Att
namespace L2
open PySem PySem.Spec PyProof.Rows
theorem vals_ints:∀{vs:List Value} {ns:List Int},IntsAre vs ns->Vals (ns.map V.int) vs
 |_,_,.nil=>.nil
 |_,_,.cons n t h=>.cons ⟨t,rfl⟩ (vals_ints h)
end L2
namespace L2
open PySem PySem.Spec PyProof.Rows
end L2
/- THE LAST THEOREM (shape;LID,My.* are yours):
 My.Adr: a structure of the addresses that your layer names (classes,functions);My.Txt K t: a structure (Prop) of the equations over K;
 My.txt_mk:{K} {implicit addresses ..} (e1:nsIn K mainGlobals "law"=some (some (.ref f))) (e2:K.lookup f=some ⟨oc,od,.func (fnOf "law" "law" params body scope dV kV doc pm an cdv ct),sl⟩) (e3:codeIn K cdv "law"=true) ..:∃t,My.Txt K t
set_option maxRecDepth 100000 in
set_option maxHeartbeats 0 in
theorem PySem.Challenge.cw_LID_holds : PySem.Challenge.rw_LID.Holds := by
 w_on;o_law;k_head;(case hw=>w_witness2)
 k_fill
 refine L2.walk_of (l:=PySem.Challenge.rw_LID) (n:=63) (k:=40) (x:="script") (CX:=fun w=>..) (sp:=fun _=>My.sp_law) rfl (by decide) rfl ⟨rfl,by decide,by decide⟩ (fun w h Y=>PySem.W.kIn_of Y) ?F ?S ?C
 case F=>
  intro w mg fa h KX G hmg
  have T:∃t,My.Txt (L2.KOf KX) t:=by
   dsimp only [L2.KOf] -- K must stand as «<heap const> w.params» for k_is
   refine' My.txt_mk ?e1 ?e2 ?e3 ..
   (case e1=>PySem.W.k_is) -- in the order: a name -> its address -> its object -> its parts
   (case e2=>PySem.W.k_is)
   ..
  obtain ⟨t,T⟩:=T
  have e0:=hmg.symm.trans (PySem.W.mg_of KX G T.law)
  cases e0 -- fa is the law's own address
  exact ⟨_,fun s u=>.of_eq rfl,fun base kb nb=>My.law_fn T kb nb⟩ -- if «.of_eq rfl» comes too early: refine' ⟨_,?b,fun base kb nb=>My.law_fn T kb nb⟩;exact fun s u=>.of_eq rfl
 case S=>exact fun w H a ns hl hO hS=>..
 case C=>exact ..
(the tactic k_is has no namespace: write k_is) -/
namespace L2
open PySem PySem.Spec PyProof.Rows
noncomputable def inClass (s:Stmt) (j:Nat):Stmt:=match s with
 |.ClassDef _ _ _ body _ _ _ _ _ _ _=>body.getD j (.Pass ⟨0,0,0,0⟩)
 |_=>.Pass ⟨0,0,0,0⟩
noncomputable def defArgs (s:Stmt):Arguments:=match s with
 |.FunctionDef _ a _ _ _ _ _ _ _ _=>a
 |_=>{posonlyargs:=[],args:=[],vararg:=none,kwonlyargs:=[],kw_defaults:=[],kwarg:=none,defaults:=[]}
noncomputable def defBody (s:Stmt):List Stmt:=match s with
 |.FunctionDef _ _ b _ _ _ _ _ _ _=>b
 |_=>[]
noncomputable def defScope (s:Stmt):Scope:=match s with
 |.FunctionDef _ _ _ _ _ _ sc _ _ _=>sc
 |_=>{kind:=.function,names:=[],isGenerator:=false,isCoroutine:=false}
noncomputable abbrev CX0:CXT:=fun _ _ _ _ _ _=>False
noncomputable abbrev E0:XK:=fun _ _ _=>False
theorem pass0 {X:Cx}:Passes CX0 X E0:=fun _ _ _ _ _ _ _ h=>h.elim
structure Fun (K:PySem.W.Frag) (x qual:Str) (st:Stmt) (f:Addr) (fd:FuncData):Prop where
 ex:∃(oc:Value) (od:Option Addr) (kV doc pm:Value) (an:Option Addr) (cdv ct:Value) (osl:Array (Option Value)),
  fd=PySem.W.fnOf x qual (defArgs st) (defBody st) (defScope st) .none kV doc pm an cdv ct/\K.lookup f=some ⟨oc,od,.func fd,osl⟩/\PySem.W.codeIn K cdv qual=true
 kp:PySem.W.keepIn K (.ref f)=true
section
variable {P:Program} {w:World} {K:PySem.W.Frag} {mg:Str->Option Value} {base:Heap}
end
section
variable {X:Cx}
end
noncomputable def Same (H H':Hp):Prop:=∀b o,H b=some o->H' b=some o
end L2
namespace L2
open PySem PySem.Spec PyProof.Rows
section
variable {X:Cx}
theorem call_lenD:CallR X (.builtin "len") (fun xs H Q=>∃a kvs,xs=[V.ref a]/\H a=some (.dK kvs)/\Q (.int kvs.length) H):=by
 intro pins s σ H xs us Q I r h
 obtain ⟨a,kvs,rfl,ha,q⟩:=h
 obtain ⟨u,rfl,ru⟩:=vals1 r
 cases ru
 exact d_len I (.inl ha) fun t s' I'=>⟨.int kvs.length,H,I',⟨t,rfl⟩,q⟩
end
section
variable {κ:Type} [DecidableEq κ]
end
end L2
end
section
namespace L2
open PySem PySem.Spec PyProof.Rows
noncomputable def cellsFor (cells:List (Str × Addr)) (y:Str × NameKind) (acc:List (Str × Addr)):List (Str × Addr):=
 if (y.2 == NameKind.free)=true then (match cells.lookup y.1 with|some c=>(y.1,c)::acc|none=>acc) else acc
noncomputable def closL (cells:List (Str × Addr)) (names:List (Str × NameKind)) (acc:List (Str × Addr)):List (Str × Addr):=names.foldl (fun a y=>cellsFor cells y a) acc
theorem forIn_steps {α β:Type} (f:α->β->Sem (ForInStep β)) (g:α->β->β):∀(l:List α) (b:β),(∀x∈l,∀b,f x b=pure (.yield (g x b)))->forIn l b f=(pure (l.foldl (fun b x=>g x b) b):Sem β)
 | [],b,_=>rfl
 | x :: l, b, h => by
   rw [List.forIn_cons,h x List.mem_cons_self,pure_bind]
   exact forIn_steps f g l _ fun y hy=>h y (List.mem_cons_of_mem _ hy)
theorem closureFor_cells {scope:Scope} {env:Env} (h:∀y∈scope.names,y.2=.free->∃c,env.cells.lookup y.1=some c) :
  closureFor scope env=pure (closL env.cells scope.names []):=by
 unfold closureFor closL
 dsimp only
 rw [forIn_steps _ (fun y a=>cellsFor env.cells y a)]
 · simp
 · intro y hy a
   obtain ⟨n,k⟩:=y
   by_cases hk:k=.free
   · obtain ⟨c,hc⟩:=h _ hy hk
     subst hk
     simp at hc
     simp [cellOf,hc,cellsFor]
   · have:(k == NameKind.free)=false:=by simpa using hk
     simp [this,cellsFor]
theorem closL_sub {cells:List (Str × Addr)}:∀(names:List (Str × NameKind)) (acc:List (Str × Addr)),(∀x c,acc.lookup x=some c->cells.lookup x=some c)->
  ∀x c,(closL cells names acc).lookup x=some c->cells.lookup x=some c
 | [],acc,h=>h
 | y :: r, acc, h => by
   refine closL_sub r (cellsFor cells y acc) ?_
   intro x c e
   unfold cellsFor at e
   split at e
   · split at e
     · rename_i c' hc'
       rw [List.lookup_cons] at e
       cases hx:x == y.1 with
       | true =>
         rw [hx] at e
         have q:x=y.1:=beq_iff_eq.mp hx
         have e':c'=c:=Option.some.inj e
         rw [q,<-e']
         exact hc'
       |false=>rw [hx] at e;exact h x c e
     · exact h x c e
   · exact h x c e
theorem closL_has {cells:List (Str × Addr)}:∀(names:List (Str × NameKind)) (acc:List (Str × Addr)) (x:Str),(∀y∈names,y.2=.free->∃c,cells.lookup y.1=some c)->
  ((∃c,acc.lookup x=some c)\/(x,NameKind.free)∈names)->∃c,(closL cells names acc).lookup x=some c
 | [], acc, x, _, h => by
   rcases h with h|h
   · exact h
   · cases h
 | y :: r, acc, x, hf, h => by
   refine closL_has r (cellsFor cells y acc) x (fun z hz=>hf z (List.mem_cons_of_mem _ hz)) ?_
   rcases h with ⟨c,h⟩|h
   · left
     unfold cellsFor
     split
     · split
       · rename_i c' hc'
         rw [List.lookup_cons]
         cases hx:x == y.1 with
         |true=>exact ⟨c',rfl⟩
         |false=>exact ⟨c,h⟩
       · exact ⟨c,h⟩
     · exact ⟨c,h⟩
   · rcases List.mem_cons.mp h with h|h
     · left
       subst h
       obtain ⟨c,hc⟩:=hf _ List.mem_cons_self rfl
       refine ⟨c,?_⟩
       simp at hc
       simp [cellsFor,hc]
     · exact .inr h
noncomputable def relab (env:Env) (y:Str × NameKind):Str × NameKind:=if (y.2 == .free&&env.scope.kind == .function&&env.kindOf y.1 == some .cell)=true then (y.1,.cell) else y
theorem relabel_names (scope:Scope) (env:Env):(relabel scope env).names=scope.names.map (relab env):=by
 unfold relabel
 show scope.names.map _=_
 refine List.map_congr_left fun y _=>?_
 obtain ⟨n,k⟩:=y
 rfl
theorem relab_fst (env:Env) (y:Str × NameKind):(relab env y).1=y.1:=by unfold relab;split<;>rfl
theorem relab_snd (env:Env) (y:Str × NameKind):(relab env y).2=y.2\/(y.2=.free/\(relab env y).2=.cell):=by
 unfold relab
 split
 · rename_i h
   simp only [Bool.and_eq_true,beq_iff_eq] at h
   exact .inr ⟨h.1.1,rfl⟩
 · exact .inl rfl
theorem relab_lookup (env:Env) (x:Str):∀names:List (Str × NameKind),∀k,(names.map (relab env)).lookup x=some k->∃k0,(x,k0)∈names/\names.lookup x=some k0/\(k=k0\/(k0=.free/\k=.cell))
 | [],k,h=>by simp at h
 | y :: r, k, h => by
   rw [List.map_cons] at h
   have f1:=relab_fst env y
   have f2:=relab_snd env y
   obtain ⟨n,k1⟩:=y
   generalize hz:relab env (n,k1)=z at *
   obtain ⟨zn,zk⟩:=z
   simp only at f1 f2
   subst f1
   rw [List.lookup_cons] at h
   rw [List.lookup_cons]
   cases hx:x == zn with
   | true =>
     rw [hx] at h
     have q:x=zn:=beq_iff_eq.mp hx
     subst q
     have e:zk=k:=Option.some.inj h
     subst e
     exact ⟨k1,List.mem_cons_self,rfl,f2⟩
   | false =>
     rw [hx] at h
     obtain ⟨k0,m,l,q⟩:=relab_lookup env x r k h
     exact ⟨k0,List.mem_cons_of_mem _ m,l,q⟩
theorem relab_lookup' (env:Env) (x:Str):∀names:List (Str × NameKind),names.lookup x=some .free->(names.map (relab env)).lookup x=some .free\/(names.map (relab env)).lookup x=some .cell
 | [],h=>by simp at h
 | y :: r, h => by
   rw [List.map_cons]
   have f1:=relab_fst env y
   have f2:=relab_snd env y
   obtain ⟨n,k1⟩:=y
   generalize hz:relab env (n,k1)=z at *
   obtain ⟨zn,zk⟩:=z
   simp only at f1 f2
   subst f1
   rw [List.lookup_cons] at h
   rw [List.lookup_cons]
   cases hx:x == zn with
   | true =>
     rw [hx] at h
     have e:k1=.free:=Option.some.inj h
     subst e
     rcases f2 with f2|⟨_,f2⟩
     · left;show some zk=_;rw [f2]
     · right;show some zk=_;rw [f2]
   | false =>
     rw [hx] at h
     exact relab_lookup' env x r h
structure CompOk (sc scope:Scope) (N0:List Str) (js:List Nat):Prop where
 kind:scope.kind=.function
 nocell:∀y∈scope.names,y.2≠.cell
 locs:∀y∈scope.names,y.2=.local->scope.names.lookup y.1=some .local
 frees:∀y∈scope.names,y.2=.free->sc.names.lookup y.1=some .cell\/sc.names.lookup y.1=some .free
 caps:∀j∈js,scope.names.lookup (N0.getD j "")=some .free/\j<N0.length
noncomputable abbrev cxComp (X:Cx) (N':List Str) (scope:Scope) (cl:List (Str × Addr)) (C:Addr) (fp:List Addr) (s:Shared) (H:Hp) (pn:List (Addr × Obj)):Cx:=
 {X with N:=N',s₀:=s,H₀:=H,env:=compEnvC scope cl C X.env,outer:=X.stack,stack:=X.stack,ex:=fp,fn:=fun _=>false,pn:=pn,xe:=fun _ _=>False}
noncomputable def csl (nt:Nat) (js:List Nat) (σ:St):St:=List.replicate nt none++js.map fun j=>(σ[j]?).join
noncomputable abbrev capN (N0:List Str) (tgs:List Str) (js:List Nat):List Str:=tgs++js.map fun j=>N0.getD j ""
noncomputable def PTs (X:Cx) (ifs:List Expr) (t:TT):Prop:=
 ∀(pins:List (Addr × Obj)) (s:Shared) (σ:St) (H:Hp) (Q:Bool->Hp->Prop),Inv X pins σ H s->t σ H Q->
  wpAny (model X.prog X.w) X.A (forIn ifs true fun c r=>if r=true then do let ok <-isTrue c X.env (eval c X.env);pure (ForInStep.yield ok) else pure (ForInStep.yield r)) (TP X pins σ Q) X.xe s
noncomputable def tYes:TT:=fun _ H Q=>Q true H
theorem pts_nil {X:Cx}:PTs X [] tYes:=fun pins s σ H Q I h=>wpAny_tests_nil ⟨H,I,h⟩
theorem pts_one {X:Cx} {c:Expr} {t:TT} (h:PT X c t):PTs X [c] t:=fun pins s σ H Q I q=>wpAny_tests_one (h pins s σ H Q I q)
noncomputable def tComp (nt:Nat) (js:List Nat) (wi:TI) (g:TG) (tt:TT) (te:TE):TE:=fun σ H Q=>wi σ H fun J H1=>∀p,H1 p=none->
 ∃W:Nat->Nat->St->Hp->Prop,(∃m,W 0 m (csl nt js σ) (upd H1 p (.lst [])))/\∀i m σ' H',W i m σ' H'->
  (J.stop i H'/\Q (.ref p) H')\/(J.go i H'/\∃N:St->Hp->Prop,(∀σ2 H2,N σ2 H2->∃m',m'<m/\W (i+1) m' σ2 H2)/\
   ∀x H2,J.yld i H' x H2->g x σ' H2 fun σ2 H3=>tt σ2 H3 fun b H4=>if b=true then te σ2 H4 fun v H5=>∃acc,H5 p=some (.lst acc)/\acc.length<sizeLine/\N σ2 (upd H5 p (.lst (acc++[v]))) else N σ2 H4)
section
variable {prog:Program} {w:World} {A:Around} {R:Result->Shared->Prop} {s:Shared}
theorem comp_turns {elt tg iter:Expr} {ifs:List Expr} {scope:Scope} {pos:Pos} {it acc:Value} {env:Env} (J:Nat->Shared->Prop)
  (turn:∀n s,J n s->wpAny (model prog w) A (pyNext it) (fun r s₁=>(r=none/\R (.ok .next) s₁)\/∃v,r=some v/\
   wpAny (model prog w) A (letOwnedTupleGo tg it v) (fun _ s₀=>wpAny (model prog w) A (assign tg env v) (fun _ s₂=>
    wpAny (model prog w) A (forIn ifs true fun c r=>if r=true then do let ok <-isTrue c env (eval c env);pure (ForInStep.yield ok) else pure (ForInStep.yield r)) (fun ok s₃=>
     if ok=true then wpAny (model prog w) A (eval elt env) (fun x s₄=>wpAny (model prog w) A (call (.builtin "list.append") [acc,x]) (fun _ s₅=>∃m,m<n/\J m s₅) (fun _ _=>False) s₄) (fun _ _=>False) s₃
     else ∃m,m<n/\J m s₃) (fun _ _=>False) s₂) (fun _ _=>False) s₀) (fun _ _=>False) s₁) (fun _ _=>False) s)
  (n:Nat) (h:J n s):codeAny (model prog w) A (.compLoop (.ListComp elt [⟨tg,iter,ifs,0⟩] scope pos) 0 it acc env) R s:=by
 refine codeAny_loop rfl J (fun n s hI=>?_) n h
 show wpAny _ A ((compTurn (.ListComp elt [⟨tg,iter,ifs,0⟩] scope pos) 0 it acc env).onRaise (fun x=>do noteFrame x env;theTreesLotGoes x)) _ _ s
 refine wpAny_noted ?_
 rw [compTurn_list]
 refine wpAny_bind (wpAny_standAt (wpAny_bind (wpAny_mono (turn n s hI) (fun r s₁ h₁=>?_) fun _ _ f=>f.elim)))
 rcases h₁ with ⟨rfl,h₁⟩|⟨v,rfl,h₁⟩
 · exact wpAny_pure h₁
 · refine wpAny_bind (wpAny_mono h₁ (fun _ s₀ h₀=>?_) fun _ _ f=>f.elim)
   refine wpAny_bind (wpAny_mono h₀ (fun _ s₂ h₂=>?_) fun _ _ f=>f.elim)
   refine wpAny_bind (wpAny_mono h₂ (fun ok s₃ h₃=>?_) fun _ _ f=>f.elim)
   cases ok with
   |false=>exact wpAny_pure ⟨rfl,h₃⟩
   | true =>
     refine wpAny_bind (wpAny_bind (wpAny_mono h₃ (fun x s₄ h₄=>?_) fun _ _ f=>f.elim))
     exact wpAny_bind (wpAny_mono h₄ (fun _ s₅ h₅=>wpAny_pure (wpAny_pure ⟨rfl,h₅⟩)) fun _ _ f=>f.elim)
end
section
variable {X:Cx} {sc scope:Scope} {tgs:List Str} {js:List Nat} {elt tg iter:Expr} {ifs:List Expr} {pos:Pos} {wi:TI} {g:TG} {tt:TT} {te:TE}
theorem lcomp_core (hc:X.calm=true) (hsc:X.env.scope=sc) (ok:CompOk sc scope X.N js)
  (hg:∀cl C fp s H pn,PG (cxComp X (capN X.N tgs js) scope cl C fp s H pn) tg g)
  (ht:∀cl C fp s H pn,PTs (cxComp X (capN X.N tgs js) scope cl C fp s H pn) ifs tt)
  (he:∀cl C fp s H pn,PE (cxComp X (capN X.N tgs js) scope cl C fp s H pn) elt te)
  {pins:List (Addr × Obj)} {σ:St} {H2:Hp} {s2:Shared} {it:Addr} {fp:List Addr} {tn:Nat->Heap->Prop} {J:It} {E:Value->Shared->Prop} {RR:Value->Addr->Result->Shared->Prop} {Q:VK}
  (I2:Inv X pins σ H2 s2) (T:Turn X.prog X.w X.K tg J fp it tn) (st2:tn 0 s2.heap) (f2:∀b∈fp,FpOk X pins H2 b)
  (rd:∀p,H2 p=none->∃W:Nat->Nat->St->Hp->Prop,(∃m,W 0 m (csl tgs.length js σ) (upd H2 p (.lst [])))/\∀i m σ' H',W i m σ' H'->
   (J.stop i H'/\Q (.ref p) H')\/(J.go i H'/\∃N:St->Hp->Prop,(∀σ2 H2,N σ2 H2->∃m',m'<m/\W (i+1) m' σ2 H2)/\
    ∀x H2,J.yld i H' x H2->g x σ' H2 fun σ2 H3=>tt σ2 H3 fun b H4=>if b=true then te σ2 H4 fun v H5=>∃acc,H5 p=some (.lst acc)/\acc.length<sizeLine/\N σ2 (upd H5 p (.lst (acc++[v]))) else N σ2 H4))
  (fin:∀p C H' s',Inv X pins σ H' s'->(∃m,s'.heap.Ns C m)->s2.heap.objs.size<C->H' C=none->Q (.ref p) H'->RR (.ref p) C (.ok .next) s') :
  wpAny (model X.prog X.w) X.A (newList []) (fun acc s₃=>wpAny (model X.prog X.w) X.A (newFunctionEnv scope X.env.globals (closL X.env.cells scope.names []) [] X.env.qual none .none (some X.env)) (fun cenv s₄=>
   codeAny (model X.prog X.w) X.A (.compStart (.ListComp elt [⟨tg,iter,ifs,0⟩] scope pos) 0 (.ref it) acc {cenv with scope:=relabel scope X.env}) (RR acc cenv.locals) s₄) E s₃) E s2:=by
 subst hsc
 refine wpAny_newObj_type (wpAny_newFunctionEnv ok.nocell (by intro y hy;simp at hy) (fun h₁ hns₁ hsb₁=>?_) ok.kind)
 have I3:Inv X pins σ (upd H2 s2.heap.objs.size (.lst [])) {s2 with heap:=s2.heap.push {cls:=.type "list",data:=.seq ([]:List Value).toArray}}:=
  I2.lnew (its:=[]) (ys:=[]) (t':=s2.toks) .nil (Nat.zero_le _)
 obtain ⟨W,⟨m0,w0⟩,turn⟩:=rd _ I2.fresh
 generalize hp:s2.heap.objs.size=p at *
 generalize hs3:({s2 with heap:=s2.heap.push {cls:=.type "list",data:=.seq ([]:List Value).toArray}}:Shared)=s3 at I3
 have e3:s3.heap=s2.heap.push {cls:=.type "list",data:=.seq ([]:List Value).toArray}:=by rw [<-hs3]
 have sz3:s3.heap.objs.size=p+1:=by rw [e3,Heap.size_push,hp]
 generalize hH3:upd H2 p (.lst [])=H3 at *
 -- the block's frame
 have hns:h₁.Ns s3.heap.objs.size (fun x=>([]:List (Str × Value)).reverse.lookup x):=by rw [e3];exact hns₁
 have hsb:Heap.SameBut s3.heap.objs.size (s3.heap.push {cls:=.type "dict",data:=.dict #[]}) h₁:=by rw [e3];exact hsb₁
 have old:∀b o,s3.heap.get? b=some o->h₁.get? b=some o:=fun b o e=>
  (hsb.2 b (Nat.ne_of_lt (Heap.lt_size e))).trans (Heap.get?_push_of_some _ e)
 have frees:∀y∈scope.names,y.2=.free->∃c,X.env.cells.lookup y.1=some c:=fun y hy hk=>I2.ok.has y.1 (ok.frees y hy hk)
 have cellX:∀x c,(closL X.env.cells scope.names []).lookup x=some c->X.env.cells.lookup x=some c:=closL_sub scope.names [] (fun x c e=>by simp at e)
 generalize hcl:closL X.env.cells scope.names []=cl at *
 have okX:(cxComp X (capN X.N tgs js) scope cl s3.heap.objs.size fp s3 H3 (X.pn++pins)).Ok:=
  { mod := I3.ok.mod, kind := ok.kind, glob := I3.ok.glob, blt := I3.ok.blt, above := Nat.le_refl _,
    inj:=fun x y c e1 e2=>I3.ok.inj x y c (cellX x c e1) (cellX y c e2),
    has:=fun x hk=>by
     have hk':(scope.names.map (relab X.env)).lookup x=some .cell\/(scope.names.map (relab X.env)).lookup x=some .free:=by
      rw [<-relabel_names];exact hk
     rw [<-hcl]
     refine closL_has scope.names [] x frees (.inr ?_)
     rcases hk' with q|q
     · obtain ⟨k0,m,_,e⟩:=relab_lookup X.env x _ _ q
       rcases e with e|⟨e,_⟩
       · subst e;exact absurd rfl (ok.nocell _ m)
       · subst e;exact m
     · obtain ⟨k0,m,_,e⟩:=relab_lookup X.env x _ _ q
       rcases e with e|⟨e,z⟩
       · subst e;exact m
       · exact absurd z (fun h=>(nomatch h)),
    cab:=fun x c e=>absurd e Bool.false_ne_true,hd:=I3.ok.hd,frames:=I3.ok.frames,stk:=.inl rfl,
    exf:=fun b hb=>⟨Nat.ne_of_lt (by
     obtain ⟨o,ho,_⟩:=T.obj 0 _ st2 b hb
     show b<s3.heap.objs.size
     rw [sz3,<-hp]
     exact Nat.lt_succ_of_lt (Heap.lt_size ho)),fun x c e=>(f2 b hb).2.2.2.2.1 x c (cellX x c e)⟩,
    bs:=I3.bs,bsz:=Nat.le_trans I3.ok.bsz I3.sz,
    noex:=fun b o e hb=>by
     rcases (f2 b hb).2.2.2.1 with z|z
     · exact I3.ok.noex b o e z
     · exact absurd (Nat.lt_of_lt_of_le (Heap.lt_size e) (Nat.le_trans I3.ok.bsz z)) (Nat.lt_irrefl _),
    exfs:=fun b hb hx=>by
     rcases List.mem_cons.mp (I3.stkSub b hx) with z|z
     · exact (f2 b hb).2.1 z
     · exact (f2 b hb).2.2.1 z,
    funs:=I3.stack,frf:=I3.stkFree}
 have I4:Inv (cxComp X (capN X.N tgs js) scope cl s3.heap.objs.size fp s3 H3 (X.pn++pins)) [] (csl tgs.length js σ) H3 {s3 with heap:=h₁}:=
  { ok := okX, os := rfl, bare := I3.bare, base := Un.kept old,
    loc:=⟨_,hns,fun i x v e1 e2 e3=>by
     have e1:(tgs++js.map fun j=>X.N.getD j "")[i]?=some x:=e1
     have e2:(List.replicate tgs.length none++js.map fun j=>(σ[j]?).join)[i]?=some (some v):=e2
     by_cases hi:i<tgs.length
     · rw [List.getElem?_append_left (by rw [List.length_replicate];exact hi),List.getElem?_replicate,if_pos hi] at e2
       cases e2
     · rw [List.getElem?_append_right (by omega),List.getElem?_map] at e1
       rw [List.getElem?_append_right (by rw [List.length_replicate];omega),List.length_replicate,List.getElem?_map] at e2
       cases hj:js[i - tgs.length]? with
       |none=>rw [hj] at e1;cases e1
       | some j =>
         rw [hj] at e1 e2
         have e1:X.N.getD j ""=x:=Option.some.inj e1
         have e2:(σ[j]?).join=some v:=Option.some.inj e2
         have hjm:j∈js:=List.mem_of_getElem? hj
         obtain ⟨hfr,hjl⟩:=ok.caps j hjm
         rw [e1] at hfr
         have hNj:X.N[j]?=some x:=by
          rw [List.getElem?_eq_getElem hjl]
          rw [List.getD_eq_getElem?_getD,List.getElem?_eq_getElem hjl] at e1
          exact congrArg some e1
         have hσ:σ[j]?=some (some v):=by
          cases q:σ[j]? with
          |none=>rw [q] at e2;cases e2
          | some o =>
            rw [q] at e2
            have e2:o=some v:=e2
            rw [e2]
         have hmem:(x,NameKind.free)∈scope.names:=by
          obtain ⟨l1,l2,h3,_⟩:=List.lookup_eq_some_iff.mp hfr
          rw [h3];simp
         have hkX:=ok.frees _ hmem rfl
         have hvis:Vis X.env.scope x:=hkX.elim (fun z=>.inr (.inl z)) fun z=>.inr (.inr z)
         obtain ⟨m,hn,hl⟩:=I3.loc
         obtain ⟨u,r,lk⟩:=hl j x v hNj hσ hvis
         refine ⟨u,r,.inr ⟨?_,?_⟩⟩
         · have q:=relab_lookup' X.env x scope.names hfr
           rw [<-relabel_names] at q
           exact q.symm
         · rcases lk with ⟨k,_⟩|⟨_,c,ec,z⟩
           · exfalso
             have k:X.env.scope.names.lookup x=some .local:=k
             rcases hkX with q|q<;>(rw [k] at q;cases q)
           · obtain ⟨c',hc'⟩:∃c',cl.lookup x=some c':=by
              rw [<-hcl]
              exact closL_has scope.names [] x frees (.inr hmem)
             have q:=cellX x c' hc'
             rw [ec] at q
             cases q
             obtain ⟨o,ho,hd⟩:=z
             exact ⟨c,hc',o,old _ _ ho,hd⟩⟩,
    cell:=fun x c e=>by
     obtain ⟨v,o,ho,hd⟩:=I3.cell x c (cellX x c e)
     exact ⟨v,o,old _ _ ho,hd⟩,
    free:=I3.fresh,
    freeC:=fun x c e=>I3.freeC x c (cellX x c e),
    pin:=fun q hq=>by
     have hq:q∈X.pn++pins:=by simpa using hq
     obtain ⟨e,n,ne,nf,d⟩:=I3.pin q hq
     refine ⟨old _ _ e,n,Nat.ne_of_lt (Heap.lt_size e),fun z=>?_,d⟩
     rcases List.mem_cons.mp (I3.stkSub _ z) with z|z
     · exact ne z
     · exact nf z,
    hok:=I3.hok.kept old,
    len:=by
     show (List.replicate tgs.length none++js.map fun j=>(σ[j]?).join).length=(tgs++js.map fun j=>X.N.getD j "").length
     simp}
 have stat:∀{H':Hp},(∀b∈fp,H' b=none)->∀b∈fp,FpOk (cxComp X (capN X.N tgs js) scope cl s3.heap.objs.size fp s3 H3 (X.pn++pins)) [] H' b:=fun hn b hb=>
  ⟨hn b hb,(okX.exf b hb).1,okX.exfs b hb,.inl hb,(okX.exf b hb).2,fun q hq=>by
   have hq:q∈X.pn++pins:=by simpa using hq
   exact (f2 b hb).2.2.2.2.2 q hq⟩
 have fr3:∀b∈fp,H3 b=none:=fun b hb=>by
  obtain ⟨o,ho,_⟩:=T.obj 0 _ st2 b hb
  rw [<-hH3,upd_ne (Nat.ne_of_lt (hp▸Heap.lt_size ho))]
  exact (f2 b hb).1
 have st4:tn 0 h₁:=T.keep 0 _ _ st2 fun b hb o e=>old b o (by rw [e3];exact Heap.get?_push_of_some _ e)
 have loop:codeAny (model X.prog X.w) X.A (.compLoop (.ListComp elt [⟨tg,iter,ifs,0⟩] scope pos) 0 (.ref it) (.ref p) (compEnvC scope cl s3.heap.objs.size X.env)) (RR (.ref p) s3.heap.objs.size) {s3 with heap:=h₁}:=by
  refine comp_turns (fun n s'=>∃i σ' H',Inv (cxComp X (capN X.N tgs js) scope cl s3.heap.objs.size fp s3 H3 (X.pn++pins)) [] σ' H' s'/\tn i s'.heap/\(∀b∈fp,H' b=none)/\W i n σ' H') ?_ m0 ⟨0,_,H3,I4,st4,fr3,w0⟩
  rintro n s4 ⟨i,σ4,H4,J4,st4,fr4,w4⟩
  rcases turn i n σ4 H4 w4 with ⟨stop,qn⟩|⟨go,N,hN,step⟩
  · refine thn (T.done (cxComp X (capN X.N tgs js) scope cl s3.heap.objs.size fp s3 H3 (X.pn++pins)) rfl rfl rfl hc i [] s4 σ4 H4 _ J4 (stat fr4) st4 stop) fun r s5 ⟨hr,J5⟩=>.inl ⟨hr,?_⟩
    have hX:Inv X pins σ H4 s5:=I3.call' J5.os J5.base J5.hok J5.bare fun b hb=>⟨(f2 b hb).2.2.2.1,(f2 b hb).2.1,(f2 b hb).2.2.2.2.1,(f2 b hb).2.2.2.2.2⟩
    obtain ⟨m,hm,_⟩:=J5.loc
    exact fin p _ H4 s5 hX ⟨m,hm⟩ (by rw [sz3];exact Nat.lt_succ_self _) J5.free qn
  · refine thn (T.item (cxComp X (capN X.N tgs js) scope cl s3.heap.objs.size fp s3 H3 (X.pn++pins)) rfl rfl rfl hc i [] s4 σ4 H4 _ J4 (stat fr4) st4 go) fun r s5 ⟨u,hr,h5⟩=>.inr ⟨u,hr,?_⟩
    refine thn h5 fun _ s6 ⟨x,H6,J6,r6,y6,st6,fr6⟩=>?_
    have J6':=J6.pinned (stat fr6) (T.obj _ _ st6)
    refine thn (hg _ _ _ _ _ _ _ s6 σ4 H6 x u _ J6' r6 (step x H6 y6)) fun _ s7 ⟨σ7,H7,J7,q7⟩=>?_
    refine thn (ht _ _ _ _ _ _ _ s7 σ7 H7 _ J7 q7) fun ok8 s8 ⟨H8,J8,q8⟩=>?_
    have again:∀{s9:Shared} {H9:Hp},Inv (cxComp X (capN X.N tgs js) scope cl s3.heap.objs.size fp s3 H3 (X.pn++pins)) ([]++pinsAt fp s6.heap) σ7 H9 s9->N σ7 H9->
      ∃m,m<n/\∃i σ' H',Inv (cxComp X (capN X.N tgs js) scope cl s3.heap.objs.size fp s3 H3 (X.pn++pins)) [] σ' H' s9/\tn i s9.heap/\(∀b∈fp,H' b=none)/\W i m σ' H':=fun {s9 H9} J9 n9=>by
     obtain ⟨m',hm,w9⟩:=hN σ7 H9 n9
     refine ⟨m',hm,i+1,σ7,H9,J9.unpinned,T.keep _ _ _ st6 fun b hb o e=>(J9.pin (b,o) (List.mem_append_right _ (List.mem_append_right _ (mem_pinsAt hb e)))).1,fun b hb=>?_,w9⟩
     obtain ⟨o,e,d⟩:=T.obj _ _ st6 b hb
     exact (J9.pin (b,o) (List.mem_append_right _ (List.mem_append_right _ (mem_pinsAt hb e)))).2.1
    cases ok8 with
    |false=>exact again J8 q8
    | true =>
      refine thn (he _ _ _ _ _ _ _ s8 σ7 H8 _ J8 q8) fun y s9 ⟨v,H9,J9,r9,acc,ha,hl,q9⟩=>?_
      refine thn (mt_append _ s9 σ7 H9 (.ref p) [v] (.ref p) [y] (fun _ H=>N σ7 H) J9 rfl (.cons r9 .nil) ⟨p,acc,v,rfl,rfl,ha,hl,q9⟩) fun _ s10 ⟨_,H10,J10,_,q10⟩=>?_
      exact again J10 q10
 exact codeAny_compStart_list loop (T.self _ 0 _ _ _ st4 loop)
theorem pe_lcomp (sc:Scope) (tgs:List Str) (js:List Nat) (hc:X.calm=true) (hsc:X.env.scope=sc) (ok:CompOk sc scope X.N js) (hi:PI X tg iter wi)
  (hg:∀cl C fp s H pn,PG (cxComp X (capN X.N tgs js) scope cl C fp s H pn) tg g)
  (ht:∀cl C fp s H pn,PTs (cxComp X (capN X.N tgs js) scope cl C fp s H pn) ifs tt)
  (he:∀cl C fp s H pn,PE (cxComp X (capN X.N tgs js) scope cl C fp s H pn) elt te)
  (hs:∀x,foldedSetIterable iter X.env x=pure x:=by intro _;rfl) :
  PE X (.ListComp elt [⟨tg,iter,ifs,0⟩] scope pos) (tComp tgs.length js wi g tt te):=by
 intro pins s σ H Q I h
 rw [eval_ListComp]
 have frees:∀y∈scope.names,y.2=.free->∃c,X.env.cells.lookup y.1=some c:=fun y hy hk=>I.ok.has y.1 (by
  have q:=ok.frees y hy hk
  rw [<-hsc] at q
  exact q)
 refine wpAny_comprehension_free (use:=none) rfl hs (closureFor_cells frees) ok.kind ok.locs (thn (hi pins s σ H _ I h) fun v s1 h1=>thn h1 fun itv s2 h2=>?_)
 obtain ⟨it,fp,tn,J,H2,e,I2,T,st2,f2,rd⟩:=h2
 subst e
 refine lcomp_core hc hsc ok hg ht he I2 T st2 f2 rd (Q:=Q) fun p C H' s' I' hm hC hn q=>?_
 obtain ⟨m,hm⟩:=hm
 refine ⟨m,hm,fun h' hs'=>⟨.ref p,H',?_,rfl,q⟩⟩
 exact I'.turned (t':=s'.toks) (it:=C) (fun b o hb e=>(hs'.2 b hb).trans e) hn (Nat.ne_of_gt (Nat.lt_trans I2.lt hC)) (.inr (Nat.le_trans I2.sz (Nat.le_of_lt hC))) (fun x c e=>by
  obtain ⟨v,o,ho,_⟩:=I2.cell x c e
  exact Nat.ne_of_lt (Nat.lt_trans (Heap.lt_size ho) hC)) fun q hq=>Nat.ne_of_lt (Nat.lt_trans (Heap.lt_size (I2.pin q hq).1) hC)
theorem ps_setC (sc:Scope) (tgs:List Str) (js:List Nat) {i:Nat} {y:Str} {py spos:Pos} (hN:X.N.Nodup) (hi':X.N[i]?=some y) (hy:Loc X.env.scope y) (hc:X.calm=true) (hsc:X.env.scope=sc) (ok:CompOk sc scope X.N js) (hi:PI X tg iter wi)
  (hg:∀cl C fp s H pn,PG (cxComp X (capN X.N tgs js) scope cl C fp s H pn) tg g)
  (ht:∀cl C fp s H pn,PTs (cxComp X (capN X.N tgs js) scope cl C fp s H pn) ifs tt)
  (he:∀cl C fp s H pn,PE (cxComp X (capN X.N tgs js) scope cl C fp s H pn) elt te)
  (hsw:swapsWith (.ListComp elt [⟨tg,iter,ifs,0⟩] scope pos) (some (.Name y py)) spos.line X.env=pure true:=by rfl)
  (hs:∀x,foldedSetIterable iter X.env x=pure x:=by intro _;rfl)
  (hf:X.fn y=true\/X.env.scope.names.lookup y=some .local:=by first|exact .inl rfl|exact .inr rfl|assumption) :
  PS X (.Assign [.Name y py] (.ListComp elt [⟨tg,iter,ifs,0⟩] scope pos) spos) (tAsg (tComp tgs.length js wi g tt te) (gName i)):=by
 intro pins s σ H D I h
 have frees:∀y∈scope.names,y.2=.free->∃c,X.env.cells.lookup y.1=some c:=fun y hy hk=>I.ok.has y.1 (by
  have q:=ok.frees y hy hk
  rw [<-hsc] at q
  exact q)
 rw [exec_Assign_Name_used _ _ _ _ hsw]
 refine wpAny_bind (wpAny_standAt (wpAny_bind ?_))
 show wpAny _ X.A (do let _ <-comprehension (.ListComp elt [⟨tg,iter,ifs,0⟩] scope pos) scope X.env _ (newList []) false (eval iter X.env) (some (assign (.Name y py) X.env))) _ _ s
 refine wpAny_bind (wpAny_mono (wpAny_comprehension_free (use:=some (assign (.Name y py) X.env)) (Q:=fun _ s'=>SP X pins D .next s') rfl hs (closureFor_cells frees) ok.kind ok.locs
  (thn (hi pins s σ H _ I h) fun v s1 h1=>thn h1 fun itv s2 h2=>?_)) (fun _ s' hq=>wpAny_pure (wpAny_pure hq)) fun _ _ e=>e)
 obtain ⟨it,fp,tn,J,H2,e,I2,T,st2,f2,rd⟩:=h2
 subst e
 refine lcomp_core hc hsc ok hg ht he I2 T st2 f2 rd (Q:=fun x H1=>gName i x σ H1 D.nx) fun p C H' s' I' hm hC hn q=>?_
 obtain ⟨m,hm⟩:=hm
 have hL:C≠X.env.locals:=Nat.ne_of_gt (Nat.lt_trans I2.lt hC)
 have hCc:∀x c,X.env.cells.lookup x=some c->c≠C:=fun x c e=>by
  obtain ⟨v,o,ho,_⟩:=I2.cell x c e
  exact Nat.ne_of_lt (Nat.lt_trans (Heap.lt_size ho) hC)
 show wpAny _ X.A (assign (.Name y py) X.env (.ref p)) _ _ _
 refine wpAny_assign_Name (store_ok2 I' hN hi' hy (v:=.ref p) rfl (fun s'' I'' hch=>?_) hf)
 obtain ⟨a,hsb,ha⟩:=hch
 have hCa:C≠a:=by
  rcases ha with z|z
  · rw [z];exact hL
  · exact fun e=>hCc y a z e.symm
 refine ⟨m,hm.sameBut hsb hCa,fun h' hs'=>⟨σ.set i (some (.ref p)),H',?_,q⟩⟩
 exact I''.turned (t':=s''.toks) (it:=C) (fun b o hb e=>(hs'.2 b hb).trans e) hn hL (.inr (Nat.le_trans I2.sz (Nat.le_of_lt hC))) hCc fun q hq=>Nat.ne_of_lt (Nat.lt_trans (Heap.lt_size (I2.pin q hq).1) hC)
end
end L2
end
section
namespace L2
open PySem PySem.Spec PyProof.Rows
structure FunV (K:PySem.W.Frag) (x qual:Str) (st:Stmt) (dV:Value) (f:Addr) (fd:FuncData):Prop where
 ex:∃(oc:Value) (od:Option Addr) (kV doc pm:Value) (an:Option Addr) (cdv ct:Value) (osl:Array (Option Value)),
  fd=PySem.W.fnOf x qual (defArgs st) (defBody st) (defScope st) dV kV doc pm an cdv ct/\K.lookup f=some ⟨oc,od,.func fd,osl⟩/\PySem.W.codeIn K cdv qual=true
 kp:PySem.W.keepIn K (.ref f)=true
theorem funV_mk {K:PySem.W.Frag} {x qual:Str} {st:Stmt} {f:Addr} {oc:Value} {od an:Option Addr} {osl:Array (Option Value)} {dV kV doc pm cdv ct:Value} (l:K.lookup f=some ⟨oc,od,.func (PySem.W.fnOf x qual (defArgs st) (defBody st) (defScope st) dV kV doc pm an cdv ct),osl⟩)
 (c:PySem.W.codeIn K cdv qual=true) (k:PySem.W.keepIn K (.ref f)=true):FunV K x qual st dV f (PySem.W.fnOf x qual (defArgs st) (defBody st) (defScope st) dV kV doc pm an cdv ct):=⟨⟨oc,od,kV,doc,pm,an,cdv,ct,osl,rfl,l,c⟩,k⟩
section
variable {P:Program} {w:World} {K:PySem.W.Frag} {mg:Str->Option Value} {base:Heap}
theorem FunV.ok {x qual:Str} {st:Stmt} {dV:Value} {f:Addr} {fd:FuncData} {N ps:List Str} {k:Nat} {sp:Sp} (F:FunV K x qual st dV f fd) (S:FnScope N ps (defScope st)) (len:∀vs H Q E,sp vs H Q E->vs.length=ps.length)
  (hbody:∀(cdv:Value) (A:Around) (outer:List Env) (s:Shared) (H:Hp) (vs:List V) (Q:VK) (E:XK),Room k (A.deeper (envOfC qual (defScope st) s.heap.objs.size f cdv))->sp vs H Q E->
   ∃t,PSs (cxOf CX0 P w K mg base N qual (defScope st) f cdv A outer s H E).nox (defBody st) t/\t {nx:=fun _ H'=>Q .non H',rt:=Q} (start N vs) H):FnOk P w K mg base CX0 (k+1) f fd ps sp:=by
 obtain ⟨oc,od,kV,doc,pm,an,cdv,ct,osl,rfl,lk,hcd⟩:=F.ex
 refine fn_of lk hcd S len fun A outer s H vs Q E hr hsp=>?_
 obtain ⟨t,h,q⟩:=hbody cdv A outer s H vs Q E hr hsp
 exact ⟨t,h.nox,q⟩
theorem FunV.binds {x qual:Str} {st:Stmt} {dV:Value} {f:Addr} {fd:FuncData} {ps:List Str} (F:FunV K x qual st dV f fd)
  (h:∀(kV doc pm:Value) (an:Option Addr) (cdv ct:Value) (us:List Value),us.length=ps.length->bindArgs (PySem.W.fnOf x qual (defArgs st) (defBody st) (defScope st) dV kV doc pm an cdv ct) ⟨us,[]⟩=pure (ps.zip us)):Binds K fd ps []:=by
 obtain ⟨oc,od,kV,doc,pm,an,cdv,ct,osl,rfl,lk,hcd⟩:=F.ex
 exact .all (h kV doc pm an cdv ct)
structure Has (P:Program) (w:World) (K:PySem.W.Frag) (mg:Str->Option Value) (base:Heap) (k:Nat) (x:Str) (ps:List Str) (dvs:List V) (sp:Sp):Prop where
 ex:∃(f:Addr) (fd:FuncData) (ds:List Value),FnOk P w K mg base CX0 k f fd ps sp/\mg x=some (.ref f)/\PySem.W.keepIn K (.ref f)=true/\Binds K fd ps ds/\Vals dvs ds
end
theorem pe_fn {X:Cx} {k:Nat} {x:Str} {ps:List Str} {dvs:List V} {sp:Sp} {p pos:Pos} {e:Expr} {es:List Expr} {t:TA} (G:Has X.prog X.w X.K X.mg X.base k x ps dvs sp) (hr:Room k X.A) (ha:PA X (e::es) t) (hg:Gl X x:=by rfl)
  (hdb:(x == ("__debug__":Str))=false:=by decide) (he:starEach (e::es) X.env=(false,eval e X.env)::starEach es X.env:=by rfl) (hpl:(backTo pos (starEach es X.env)).any (·.1)=false:=by rfl) :
  PE X (.Call (.Name x p) (e::es) [] pos) (tCall sp dvs E0 t):=by
 obtain ⟨f,fd,ds,F,hm,hk,hb,hd⟩:=G.ex
 exact pe_call F hr hg hm hk hb hd pass0 ha hdb he hpl
theorem pe_fn0 {X:Cx} {k:Nat} {x:Str} {ps:List Str} {dvs:List V} {sp:Sp} {p pos:Pos} (G:Has X.prog X.w X.K X.mg X.base k x ps dvs sp) (hr:Room k X.A) (hg:Gl X x:=by rfl)
  (hdb:(x == ("__debug__":Str))=false:=by decide):PE X (.Call (.Name x p) [] [] pos) (tCall sp dvs E0 tNil):=by
 obtain ⟨f,fd,ds,F,hm,hk,hb,hd⟩:=G.ex
 exact pe_call0 F hr hg hm hk hb hd pass0 hdb
mutual
noncomputable def Rep (H:Hp):PyData->V->Prop
 |.none,v=>v=.non
 |.bool b,v=>v=.bl b
 |.int i,v=>v=.int i
 |.str x,v=>v=.str x
 |.list ds,v=>∃a vs,v=.ref a/\H a=some (.lst vs)/\RepAll H ds vs
 |.tuple ds,v=>∃a vs,v=.ref a/\H a=some (.tup vs)/\RepAll H ds vs
 |.dict _,_=>False
noncomputable def RepAll (H:Hp):List PyData->List V->Prop
 | [],vs=>vs=[]
 |d::ds,vs=>∃v r,vs=v::r/\Rep H d v/\RepAll H ds r
end
mutual
noncomputable def imm:PyData->Bool
 |.none=>true
 |.bool _=>true
 |.int _=>true
 |.str _=>true
 |.list _=>false
 |.tuple ds=>immAll ds
 |.dict _=>false
noncomputable def immAll:List PyData->Bool
 | []=>true
 |d::ds=>imm d&&immAll ds
end
noncomputable def Tups (H H':Hp):Prop:=∀b xs,H b=some (.tup xs)->H' b=some (.tup xs)
theorem Tups.refl (H:Hp):Tups H H:=fun _ _ h=>h
theorem Tups.trans {H H1 H2:Hp} (a:Tups H H1) (b:Tups H1 H2):Tups H H2:=fun c xs h=>b c xs (a c xs h)
theorem Tups.upd {H:Hp} {p:Addr} {o:HO} (h:∀xs,H p≠some (.tup xs)):Tups H (upd H p o):=fun b xs e=>by
 have hb:b≠p:=fun z=>by subst z;exact h xs e
 rw [upd_ne hb];exact e
theorem Tups.upd_lst {H:Hp} {p:Addr} {o:HO} {xs:List V} (h:H p=some (.lst xs)):Tups H (L2.upd H p o):=Tups.upd fun ys e=>by rw [h] at e;cases e
theorem Tups.upd_new {H:Hp} {p:Addr} {o:HO} (h:H p=none):Tups H (L2.upd H p o):=Tups.upd fun ys e=>by rw [h] at e;cases e
mutual
theorem Rep.same {H H':Hp} (hs:Same H H'):∀{d:PyData} {v:V},Rep H d v->Rep H' d v
 |.none,_,h=>h
 |.bool _,_,h=>h
 |.int _,_,h=>h
 |.str _,_,h=>h
 | .list ds, v, h => by
   obtain ⟨a,vs,e,ha,r⟩:=h
   exact ⟨a,vs,e,hs _ _ ha,RepAll.same hs r⟩
 | .tuple ds, v, h => by
   obtain ⟨a,vs,e,ha,r⟩:=h
   exact ⟨a,vs,e,hs _ _ ha,RepAll.same hs r⟩
 |.dict _,_,h=>h
theorem RepAll.same {H H':Hp} (hs:Same H H'):∀{ds:List PyData} {vs:List V},RepAll H ds vs->RepAll H' ds vs
 | [],_,h=>h
 | d :: ds, vs, h => by
   obtain ⟨v,r,e,h1,h2⟩:=h
   exact ⟨v,r,e,Rep.same hs h1,RepAll.same hs h2⟩
end
mutual
theorem Rep.tups {H H':Hp} (hs:Tups H H'):∀{d:PyData} {v:V},imm d=true->Rep H d v->Rep H' d v
 |.none,_,_,h=>h
 |.bool _,_,_,h=>h
 |.int _,_,_,h=>h
 |.str _,_,_,h=>h
 |.list ds,v,i,h=>by simp [imm] at i
 | .tuple ds, v, i, h => by
   obtain ⟨a,vs,e,ha,r⟩:=h
   exact ⟨a,vs,e,hs _ _ ha,RepAll.tups hs (by simpa [imm] using i) r⟩
 |.dict _,_,_,h=>h
theorem RepAll.tups {H H':Hp} (hs:Tups H H'):∀{ds:List PyData} {vs:List V},immAll ds=true->RepAll H ds vs->RepAll H' ds vs
 | [],_,_,h=>h
 | d :: ds, vs, i, h => by
   obtain ⟨v,r,e,h1,h2⟩:=h
   have i':imm d=true/\immAll ds=true:=by simpa [immAll] using i
   exact ⟨v,r,e,Rep.tups hs i'.1 h1,RepAll.tups hs i'.2 h2⟩
end
theorem RepAll.ints (H:Hp):∀ns:List Int,RepAll H (ns.map PyData.int) (ns.map V.int)
 | []=>rfl
 |n::ns=>⟨_,_,rfl,rfl,RepAll.ints H ns⟩
mutual
theorem Rep.reads {X:Cx} {pins:List (Addr × Obj)} {σ:St} {H:Hp} {s:Shared} (I:Inv X pins σ H s):∀(d:PyData) (v:V) (u:Value),Rep H d v->RelV v u->∃as,Reads s.heap u d as
 | .none, v, u, h, r => by
   cases (show v=.non from h)
   cases (show u=Value.none from r)
   exact ⟨_,.none⟩
 | .bool b, v, u, h, r => by
   cases (show v=.bl b from h)
   cases (show u=Value.bool b from r)
   exact ⟨_,.bool b⟩
 | .int i, v, u, h, r => by
   cases (show v=.int i from h)
   obtain ⟨t,rfl⟩:=(show ∃t,u=Value.int i t from r)
   exact ⟨_,.int i t⟩
 | .str x, v, u, h, r => by
   cases (show v=.str x from h)
   obtain ⟨t,rfl⟩:=(show ∃t,u=Value.str x t from r)
   exact ⟨_,.str x t⟩
 | .list ds, v, u, h, r => by
   obtain ⟨a,vs,rfl,ha,hr⟩:=h
   cases (show u=Value.ref a from r)
   obtain ⟨its,n,rv,e,_⟩:=I.lst ha
   obtain ⟨as,q⟩:=RepAll.reads I ds vs its hr rv
   exact ⟨_,.list e rfl rfl q⟩
 | .tuple ds, v, u, h, r => by
   obtain ⟨a,vs,rfl,ha,hr⟩:=h
   cases (show u=Value.ref a from r)
   obtain ⟨its,rv,⟨o,e1,e2,n,e3⟩,_⟩:=I.tuple (SqT.of (K:=X.K) ha)
   obtain ⟨as,q⟩:=RepAll.reads I ds vs its hr rv
   exact ⟨_,.tuple e1 e2 e3 q⟩
 |.dict _,_,_,h,_=>False.elim h
theorem RepAll.reads {X:Cx} {pins:List (Addr × Obj)} {σ:St} {H:Hp} {s:Shared} (I:Inv X pins σ H s):∀(ds:List PyData) (vs:List V) (us:List Value),RepAll H ds vs->Vals vs us->∃as,ReadsAll s.heap us ds as
 | [], vs, us, h, r => by
   cases (show vs=[] from h)
   cases r
   exact ⟨_,.nil⟩
 | d :: ds, vs, us, h, r => by
   obtain ⟨v,vr,rfl,h1,h2⟩:=h
   cases r with
   | cons r1 r2 =>
     obtain ⟨as,q1⟩:=Rep.reads I d v _ h1 r1
     obtain ⟨bs,q2⟩:=RepAll.reads I ds vr _ h2 r2
     exact ⟨_,.cons q1 q2⟩
end
theorem eqv_int (i j:Int):PyData.eqv (.int i) (.int j)=(i == j):=by simp [PyData.eqv]
section
variable {X:Cx}
noncomputable def rEqD (g:Bool->Bool):R2:=fun x y H Q=>∃da db,Rep H da x/\Rep H db y/\da.canLay0=true/\db.canLay0=true/\min da.depth db.depth<=60/\Q (.bl (g (PyData.eqv da db))) H
theorem op_eqD (hu:X.A.units+64<cLine):OpR X (compareOp .Eq) (rEqD id):=by
 intro pins s σ H x y v u Q I rx ry h
 obtain ⟨da,db,h1,h2,l1,l2,hd,q⟩:=h
 obtain ⟨as,r1⟩:=Rep.reads I da x v h1 rx
 obtain ⟨bs,r2⟩:=Rep.reads I db y u h2 ry
 exact SeqAt.compareEq_reads r1 r2 l1 l2 (by omega) (fin_bl I q rfl)
theorem op_neD (hu:X.A.units+64<cLine):OpR X (compareOp .NotEq) (rEqD not):=by
 intro pins s σ H x y v u Q I rx ry h
 obtain ⟨da,db,h1,h2,l1,l2,hd,q⟩:=h
 obtain ⟨as,r1⟩:=Rep.reads I da x v h1 rx
 obtain ⟨bs,r2⟩:=Rep.reads I db y u h2 ry
 exact SeqAt.compareNe_reads r1 r2 l1 l2 (by omega) (fin_bl I q rfl)
theorem op_isB:OpR X (compareOp .Is) (fun x y H Q=>∃a b,x=.bl a/\y=.bl b/\Q (.bl (a == b)) H):=by
 intro pins s σ H x y v u Q I rx ry h
 obtain ⟨a,b,rfl,rfl,q⟩:=h
 cases rx
 cases ry
 refine wpAny_is_plain (by cases a<;>cases b<;>rfl) (fin_bl I q ?_)
 cases a<;>cases b<;>rfl
noncomputable def tyName (H:Hp):V->Option String
 |.non=>some "NoneType"
 |.bl _=>some "bool"
 |.int _=>some "int"
 |.str _=>some "str"
 | .ref a => match H a with
   |some (.lst _)=>some "list"
   |some (.frz _ (.lst _))=>some "list"
   |some (.tup _)=>some "tuple"
   |some (.dK _)=>some "dict"
   |some (.dT _)=>some "dict"
   |_=>none
 |_=>none
theorem tyName_of {K:PySem.W.Frag} {H:Hp} {x:V} {a:String} (h:tyName H x=some a):TyOf K H x (.type a):=by
 cases x with
 |non=>cases h;exact .non
 |bl b=>cases h;exact .bl b
 |int i=>cases h;exact .int i
 |str y=>cases h;exact .str y
 |byt _=>cases h
 |flt _=>cases h
 |ty _=>cases h
 | ref p =>
   unfold tyName at h
   cases e:H p with
   |none=>simp [e] at h
   | some o =>
     cases o with
     |lst xs=>simp [e] at h;subst h;exact .lst e
     |tup xs=>simp [e] at h;subst h;exact .tup e
     |dK kvs=>simp [e] at h;subst h;exact .dK e
     |dT kvs=>simp [e] at h;subst h;exact .dT e
     | frz ob q =>
       cases q with
       |lst xs=>simp [e] at h;subst h;exact .frz e
       |_=>simp [e] at h
     |_=>simp [e] at h
noncomputable def subT (a b:String):Bool:=a == b || (a == "bool"&&b == "int")
theorem kit_sub (K:PySem.W.Frag) {a b:String} (ha:a∈["NoneType","bool","int","str","list","tuple","dict"]) (hb:b∈["bool","int","str","list","tuple","dict"]):PySem.W.kitOne K (.type a) (.type b)=some (subT a b):=by
 simp only [List.mem_cons,List.not_mem_nil,or_false] at ha hb
 rcases ha with rfl|rfl|rfl|rfl|rfl|rfl|rfl<;>rcases hb with rfl|rfl|rfl|rfl|rfl|rfl<;>rfl
theorem tyName_mem {H:Hp} {x:V} {a:String} (h:tyName H x=some a):a∈["NoneType","bool","int","str","list","tuple","dict"]:=by
 cases x with
 |non=>cases h;simp
 |bl b=>cases h;simp
 |int i=>cases h;simp
 |str y=>cases h;simp
 |byt _=>cases h
 |flt _=>cases h
 |ty _=>cases h
 | ref p =>
   unfold tyName at h
   simp only at h
   split at h<;>first|(cases h;simp)|cases h
theorem call_isinst:CallR X (.builtin "isinstance") (fun xs H Q=>∃x c a,xs=[x,.ty c]/\tyName H x=some a/\c∈["bool","int","str","list","tuple","dict"]/\Q (.bl (subT a c)) H):=by
 intro pins s σ H xs us Q I r h
 obtain ⟨x,c,a,rfl,hx,hc,q⟩:=h
 obtain ⟨u,w',rfl,rx,rc⟩:=vals2 r
 cases (show w'=Value.type c from rc)
 exact isinst_ok I rx (tyName_of hx) (kit_sub X.K (tyName_mem hx) hc) fun tk=>⟨.bl (subT a c),H,I.tok tk,rfl,q⟩
end
end L2
namespace L2
open PySem PySem.Spec PyProof.Rows
section
variable {X:Cx} {scope:Scope} {elt tg iter:Expr} {ifs:List Expr} {pos:Pos} {wi:TI} {g:TG} {tt:TT} {te:TE}
end
end L2
namespace L2
open PySem PySem.Spec PyProof.Rows
section
variable {X:Cx} (K:PySem.W.Frag) (hK:X.K=K)
include hK
end
end L2
end
section
namespace TM
structure Good (m:Nat) (wo:Option Int) (s:Int) (n:Nat) (p:List Int):Prop where
 len:p.length=n
 head:p.head?=some s
 nd:p.Nodup
 rng:∀h∈p,0<=h/\h<m/\wo≠some h
noncomputable def left (m:Nat) (wo:Option Int):Int:=match wo with|none=>m|some _=>m - 1
end TM
end
section
namespace L2
open PySem PySem.Spec PyProof.Rows
theorem bb_len:bootBuiltins "len"=some (.builtin "len"):=by decide +kernel
theorem bb_abs:bootBuiltins "abs"=some (.builtin "abs"):=by decide +kernel
theorem bb_max:bootBuiltins "max"=some (.builtin "max"):=by decide +kernel
theorem bb_min:bootBuiltins "min"=some (.builtin "min"):=by decide +kernel
theorem bb_all:bootBuiltins "all"=some (.builtin "all"):=by decide +kernel
theorem bb_isinstance:bootBuiltins "isinstance"=some (.builtin "isinstance"):=by decide +kernel
theorem bb_int:bootBuiltins "int"=some (.type "int"):=by decide +kernel
theorem bb_bool:bootBuiltins "bool"=some (.type "bool"):=by decide +kernel
theorem bb_str:bootBuiltins "str"=some (.type "str"):=by decide +kernel
theorem bb_list:bootBuiltins "list"=some (.type "list"):=by decide +kernel
theorem bb_tuple:bootBuiltins "tuple"=some (.type "tuple"):=by decide +kernel
theorem bb_dict:bootBuiltins "dict"=some (.type "dict"):=by decide +kernel
noncomputable def cellZ (ns:List Int) (k:Nat):Int:=match ns[k]? with|some v=>v % 10 ^ 64|none=>0
end L2
end
section
namespace R
noncomputable def rowLe (a b:Int × Int):Bool:=decide (b.2<a.2\/(a.2=b.2/\a.1<=b.1))
noncomputable def tallyL (rows:List (Int × Int)):List (Int × Int):=rows.mergeSort rowLe
noncomputable def bump:List (Int × Int)->Int->List (Int × Int)
 | [],w=>[(w,1)]
 |(k,c)::r,w=>if k=w then (k,c+1)::r else (k,c)::bump r w
noncomputable def countsFrom (kvs:List (Int × Int)) (ws:List (Option Int)):List (Int × Int):=ws.foldl (fun a w=>match w with|some x=>bump a x|none=>a) kvs
theorem bump_keys:∀(kvs:List (Int × Int)) (w:Int),(bump kvs w).map (·.1)=if w∈kvs.map (·.1) then kvs.map (·.1) else kvs.map (·.1)++[w]
 | [],w=>by simp [bump]
 | (k, c) :: r, w => by
   unfold bump
   by_cases e:k=w
   · subst e;simp
   · have ih:=bump_keys r w
     rw [if_neg e]
     simp only [List.map_cons,List.mem_cons,ih]
     by_cases h:w∈r.map (·.1)
     · rw [if_pos h,if_pos (.inr h)]
     · rw [if_neg h,if_neg (by rintro (z|z);exact e z.symm;exact h z)];rfl
theorem bump_nodup {kvs:List (Int × Int)} {w:Int} (h:(kvs.map (·.1)).Nodup):((bump kvs w).map (·.1)).Nodup:=by
 rw [bump_keys]
 split
 · exact h
 · rename_i n
   rw [List.nodup_append]
   refine ⟨h,by simp,?_⟩
   intro a ha b hb
   rw [List.mem_singleton] at hb
   subst hb
   intro z
   subst z
   exact n ha
noncomputable def at0 (kvs:List (Int × Int)) (x:Int):Int:=match kvs.find? (fun r=>r.1 == x) with|some r=>r.2|none=>0
theorem at0_bump:∀(kvs:List (Int × Int)) (w x:Int),at0 (bump kvs w) x=at0 kvs x+if x=w then 1 else 0
 | [], w, x => by
   unfold bump at0
   by_cases e:w=x
   · subst e;simp
   · have:¬x=w:=fun z=>e z.symm
     simp [e,this]
 | (k, c) :: r, w, x => by
   unfold bump
   have ih:=at0_bump r w x
   by_cases e:k=w
   · subst e
     rw [if_pos rfl]
     by_cases z:k=x
     · subst z;simp [at0]
     · have z':¬x=k:=fun y=>z y.symm
       simp [at0,z,z']
   · rw [if_neg e]
     by_cases z:k=x
     · subst z;simp [at0,e]
     · have h1:at0 ((k,c)::bump r w) x=at0 (bump r w) x:=by simp [at0,z]
       have h2:at0 ((k,c)::r) x=at0 r x:=by simp [at0,z]
       rw [h1,h2,ih]
theorem at0_mem {kvs:List (Int × Int)} (nd:(kvs.map (·.1)).Nodup) {x c:Int} (h:(x,c)∈kvs):at0 kvs x=c:=by
 induction kvs with
 |nil=>cases h
 | cons a r ih =>
   obtain ⟨k,d⟩:=a
   simp only [List.map_cons,List.nodup_cons] at nd
   rcases List.mem_cons.mp h with e|e
   · cases e;simp [at0]
   · have:¬k=x:=fun z=>nd.1 (by rw [z];exact List.mem_map.mpr ⟨_,e,rfl⟩)
     have h2:at0 ((k,d)::r) x=at0 r x:=by simp [at0,this]
     rw [h2];exact ih nd.2 e
theorem countsFrom_nodup:∀(ws:List (Option Int)) {kvs:List (Int × Int)},(kvs.map (·.1)).Nodup->((countsFrom kvs ws).map (·.1)).Nodup
 | [],_,h=>h
 |some w::ws,kvs,h=>countsFrom_nodup ws (bump_nodup (w:=w) h)
 |none::ws,kvs,h=>countsFrom_nodup ws h
theorem countsFrom_at:∀(ws:List (Option Int)) (kvs:List (Int × Int)) (x:Int),at0 (countsFrom kvs ws) x=at0 kvs x+(ws.count (some x):Nat)
 | [],kvs,x=>by simp [countsFrom]
 | some w :: ws, kvs, x => by
   show at0 (countsFrom (bump kvs w) ws) x=_
   rw [countsFrom_at ws (bump kvs w) x,at0_bump,List.count_cons]
   by_cases e:x=w
   · subst e;simp;omega
   · have:¬(w=x):=fun z=>e z.symm
     simp [e,this]
 | none :: ws, kvs, x => by
   show at0 (countsFrom kvs ws) x=_
   rw [countsFrom_at ws kvs x,List.count_cons]
   simp
theorem countsFrom_keys:∀(ws:List (Option Int)) (kvs:List (Int × Int)) (x:Int),x∈(countsFrom kvs ws).map (·.1)↔x∈kvs.map (·.1)\/some x∈ws
 | [],kvs,x=>by simp [countsFrom]
 | some w :: ws, kvs, x => by
   show x∈(countsFrom (bump kvs w) ws).map (·.1)↔_
   rw [countsFrom_keys ws (bump kvs w) x,bump_keys]
   by_cases h:w∈kvs.map (·.1)
   · rw [if_pos h]
     constructor
     · rintro (z|z)
       · exact .inl z
       · exact .inr (List.mem_cons_of_mem _ z)
     · rintro (z|z)
       · exact .inl z
       · rcases List.mem_cons.mp z with y|y
         · cases y;exact .inl h
         · exact .inr y
   · rw [if_neg h]
     constructor
     · rintro (z|z)
       · rcases List.mem_append.mp z with y|y
         · exact .inl y
         · rw [List.mem_singleton] at y;subst y;exact .inr List.mem_cons_self
       · exact .inr (List.mem_cons_of_mem _ z)
     · rintro (z|z)
       · exact .inl (List.mem_append_left _ z)
       · rcases List.mem_cons.mp z with y|y
         · cases y;exact .inl (List.mem_append_right _ (List.mem_singleton.mpr rfl))
         · exact .inr y
 | none :: ws, kvs, x => by
   show x∈(countsFrom kvs ws).map (·.1)↔_
   rw [countsFrom_keys ws kvs x]
   simp
theorem counts_row {ws:List (Option Int)} {x c:Int}:(x,c)∈countsFrom [] ws↔some x∈ws/\c=(ws.count (some x):Nat):=by
 have nd:((countsFrom [] ws).map (·.1)).Nodup:=countsFrom_nodup ws (by simp)
 have at_:=countsFrom_at ws [] x
 have k0:at0 [] x=0:=rfl
 rw [k0,Int.zero_add] at at_
 constructor
 · intro h
   have:=(countsFrom_keys ws [] x).mp (List.mem_map.mpr ⟨_,h,rfl⟩)
   refine ⟨this.resolve_left (by simp),?_⟩
   rw [<-at_,at0_mem nd h]
 · rintro ⟨h,rfl⟩
   have:=(countsFrom_keys ws [] x).mpr (.inr h)
   obtain ⟨⟨y,c⟩,hm,rfl⟩:=List.mem_map.mp this
   have e:=at0_mem nd hm
   have:c=(ws.count (some y):Nat):=by rw [<-at_];exact e.symm
   rw [<-this];exact hm
theorem counts_len (ws:List (Option Int)):(countsFrom [] ws).length<=ws.length:=by
 have:∀(ws:List (Option Int)) (kvs:List (Int × Int)),(countsFrom kvs ws).length<=kvs.length+ws.length:=by
  intro ws
  induction ws with
  |nil=>intro kvs;simp [countsFrom]
  | cons w ws ih =>
    intro kvs
    cases w with
    |none=>have:=ih kvs;show (countsFrom kvs ws).length<=_;simp;omega
    | some x =>
      have:=ih (bump kvs x)
      have hb:(bump kvs x).length<=kvs.length+1:=by
       have:=congrArg List.length (bump_keys kvs x)
       simp only [List.length_map] at this
       rw [this];split<;>simp
      show (countsFrom (bump kvs x) ws).length<=_
      simp;omega
 simpa using this ws []
end R
end
section
namespace R
open PySem (Str PyData Operator CmpOp)
inductive D where
 |non|bl (b:Bool)|int (i:Int)|str (x:Str)|tup (ds:List D)|ref (l:Nat)
 |fix (ds:List D)
inductive MO where
 |lst (ds:List D)|dic (kvs:List (D × D))|ins (c:Nat) (fs:List (Str × D))
 |dtp (kvs:List (List Int × D))
structure St where
 frz:List MO
 new:List MO
 lk:List Nat
inductive Out (α:Type) where
 |ok (a:α) (S:St)
 |err (d:D) (S:St)
 |bad
noncomputable def Out.bind {α β:Type} (o:Out α) (f:α->St->Out β):Out β:=match o with
 |.ok a S=>f a S
 |.err d S=>.err d S
 |.bad=>.bad
noncomputable def lift {α:Type} (S:St):Option α->Out α
 |some a=>.ok a S
 |none=>.bad
namespace St
noncomputable def get (S:St) (l:Nat):Option MO:=if l<S.frz.length then S.frz[l]? else S.new[l - S.frz.length]?
noncomputable def len (S:St):Nat:=S.frz.length+S.new.length
noncomputable def push (S:St) (o:MO):St:={S with new:=S.new++[o]}
noncomputable def put (S:St) (l:Nat) (o:MO):Option St:=if l<S.frz.length then none else if S.lk.contains l then none else some {S with new:=S.new.set (l - S.frz.length) o}
noncomputable def enter (S:St):St:=⟨S.frz++S.new,[],[]⟩
end St
noncomputable def lay (S:St) (ds:List D):Out D:=if ds.length<=16777216 then .ok (.ref S.len) (S.push (.lst ds)) else .bad
noncomputable def wr (S:St) (l:Nat) (ds:List D) (d:D):Out D:=if ds.length<=16777216 then (match S.put l (.lst ds) with|some S'=>.ok d S'|none=>.bad) else .bad
noncomputable def pd (S:St):Nat->D->Option PyData
 |_,.non=>some .none
 |_,.bl b=>some (.bool b)
 |_,.int i=>some (.int i)
 |_,.str x=>if PySem.PyData.strOk x then some (.str x) else none
 |n+1,.tup ds=>(ds.mapM (pd S n)).map PyData.tuple
 | n + 1, .ref l => match S.get l with
   |some (.lst ds)=>(ds.mapM (pd S n)).map PyData.list
   |_=>none
 |_,.fix _=>none
 |0,_=>none
mutual
noncomputable def flat (n:Nat):D->Bool
 |.tup ds=>flats n ds
 |.ref l=>decide (l<n)
 |.fix ds=>flats n ds
 |_=>true
noncomputable def flats (n:Nat):List D->Bool
 | []=>true
 |d::ds=>flat n d&&flats n ds
end
noncomputable def seqOf (S:St):D->Option (List D)
 |.tup ds=>some ds
 |.fix ds=>some ds
 | .ref l => match S.get l with
   |some (.lst ds)=>some ds
   |_=>none
 |_=>none
noncomputable def lkOf (S:St):D->List Nat
 |.ref l=>[l]
 |_=>[]
noncomputable def tru (S:St):D->Option Bool
 |.non=>some false
 |.bl b=>some b
 |.int i=>some (i != 0)
 |.tup ds=>some (!ds.isEmpty)
 | .ref l => match S.get l with
   |some (.lst ds)=>some (!ds.isEmpty)
   |_=>none
 |_=>none
noncomputable def tyOf (S:St):D->Option String
 |.non=>some "NoneType"
 |.bl _=>some "bool"
 |.int _=>some "int"
 |.str _=>some "str"
 |.tup _=>some "tuple"
 | .ref l => match S.get l with
   |some (.lst _)=>some "list"
   |some (.dic _)=>some "dict"
   |some (.dtp _)=>some "dict"
   |_=>none
 |.fix _=>none
noncomputable def ixN (n:Nat) (i:Int):Option Nat:=if 0<=i then (if i<n then some i.toNat else none) else if -(n:Int)<=i then some (i+n).toNat else none
noncomputable def atI {α:Type} (xs:List α) (i:Int):Option α:=(ixN xs.length i).bind fun j=>xs[j]?
noncomputable def intOf:D->Option Int
 |.int i=>some i
 |_=>none
noncomputable def mulOk (i j:Int):Bool:=decide (-(2 ^ 64)<i/\i<2 ^ 64) || decide (-(2 ^ 64)<j/\j<2 ^ 64)
noncomputable def binI (S:St) (op:Operator) (i j:Int):Out D:=match op with
 |.Add=>.ok (.int (i+j)) S
 |.Sub=>.ok (.int (i - j)) S
 |.Mult=>if mulOk i j then .ok (.int (i * j)) S else .bad
 |.FloorDiv=>if 0<j/\j<1073741824 then .ok (.int (i / j)) S else .bad
 |.Mod=>if 0<j then .ok (.int (i % j)) S else .bad
 |.Pow=>if 0<=j/\j<=1000000/\-18446744073709551616<i/\i<18446744073709551616 then .ok (.int (i ^ j.toNat)) S else .bad
 |_=>.bad
noncomputable def binD (S:St) (op:Operator) (x y:D):Out D:=match x,y with
 |.int i,.int j=>binI S op i j
 |.tup xs,.tup ys=>(match op with|.Add=>if xs.length+ys.length<=16777216 then .ok (.tup (xs++ys)) S else .bad|_=>.bad)
 |.ref a,.ref b=>(match op,S.get a,S.get b with|.Add,some (.lst xs),some (.lst ys)=>lay S (xs++ys)|_,_,_=>.bad)
 |_,_=>.bad
noncomputable def eqD (S:St) (x y:D):Option Bool:=(pd S 60 x).bind fun a=>(pd S 60 y).map fun b=>PyData.eqv a b
noncomputable def inD (S:St) (x:D) (ys:List D):Option Bool:=(ys.mapM fun z=>eqD S z x).map fun bs=>bs.any id
noncomputable def lexLt:List Int->List Int->Bool
 | [],[]=>false
 | [],_::_=>true
 |_::_,[]=>false
 |a::as,b::bs=>if a=b then lexLt as bs else decide (a<b)
noncomputable def intsOf (ds:List D):Option (List Int):=ds.mapM intOf
noncomputable def cmpI (op:CmpOp) (i j:Int):Option Bool:=match op with
 |.Eq=>some (decide (i=j))
 |.NotEq=>some (!decide (i=j))
 |.Lt=>some (decide (i<j))
 |.LtE=>some (decide (i<=j))
 |.Gt=>some (decide (j<i))
 |.GtE=>some (decide (j<=i))
 |_=>none
noncomputable def isNon:D->Bool|.non=>true|_=>false
noncomputable def wordOf:D->Option (Option Int)
 |.non=>some none
 |.int i=>some (some i)
 |_=>none
noncomputable def dKvs (S:St):D->Option (List (List Int × D))
 |.ref l=>(match S.get l with|some (.dtp kvs)=>some kvs|_=>none)
 |_=>none
noncomputable def wordsK (kvs:List (List Int × D)):Option (List (List Int × Option Int)):=kvs.mapM fun kv=>(wordOf kv.2).map fun w=>(kv.1,w)
noncomputable def eqK (a b:List (List Int × D)):Option Bool:=(wordsK a).bind fun x=>(wordsK b).bind fun y=>if x=y then some true else none
noncomputable def eqAny (S:St) (x y:D):Option Bool:=match dKvs S x,dKvs S y with
 |some a,some b=>eqK a b
 |_,_=>eqD S x y
noncomputable def keyOf:D->Option (List Int)
 |.tup ds=>intsOf ds
 |_=>none
noncomputable def valP (kvs:List (List Int × D)) (k:List Int):Option D:=(kvs.find? fun kv=>decide (kv.1=k)).map (·.2)
noncomputable def inAny (S:St) (x y:D):Option Bool:=match dKvs S y with
 |some kvs=>(keyOf x).map fun k=>(valP kvs k).isSome
 |none=>(seqOf S y).bind fun ys=>inD S x ys
noncomputable def cmpO (S:St) (op:CmpOp) (x y:D):Option Bool:=match op with
 |.Eq=>eqAny S x y
 |.NotEq=>(eqAny S x y).map (!·)
 |.Is=>(match y with|.non=>some (isNon x)|.bl b=>(match x with|.bl a=>some (a == b)|_=>none)|_=>none)
 |.IsNot=>(match y with|.non=>some (!isNon x)|_=>none)
 |.In=>inAny S x y
 |.NotIn=>(inAny S x y).map (!·)
 |.Lt=>(match x,y with|.tup xs,.tup ys=>(intsOf xs).bind fun a=>(intsOf ys).map fun b=>lexLt a b|_,_=>none)
 |_=>none
noncomputable def cmpD (S:St) (op:CmpOp) (x y:D):Option Bool:=match x,y with
 |.int i,.int j=>cmpI op i j
 |_,_=>cmpO S op x y
inductive Bi where
 |len|abs|max2|min2|isin (t:String)
noncomputable def wordsOf (ds:List D):Option (List (Option Int)):=ds.mapM wordOf
inductive Mt where
 |append|popAt|count
noncomputable def bi (S:St):Bi->List D->Out D
 | .len, [x] => (match x with
   |.tup ds=>.ok (.int ds.length) S
   |.fix ds=>.ok (.int ds.length) S
   |.ref l=>(match S.get l with|some (.lst ds)=>.ok (.int ds.length) S|some (.dic kvs)=>.ok (.int kvs.length) S|_=>.bad)
   |_=>.bad)
 |.abs,[.int i]=>.ok (.int (if i<0 then -i else i)) S
 |.max2,[.int i,.int j]=>.ok (.int (if j > i then j else i)) S
 |.min2,[.int i,.int j]=>.ok (.int (if j<i then j else i)) S
 |.isin t,[x]=>(match tyOf S x with|some a=>.ok (.bl (a == t || (a == "bool"&&t == "int"))) S|none=>.bad)
 |_,_=>.bad
noncomputable def isL (S:St):D->Bool
 |.ref l=>(match S.get l with|some (.lst _)=>true|_=>false)
 |_=>false
noncomputable def mt (S:St):Mt->D->List D->Out D
 |.append,.ref l,[y]=>(match S.get l with|some (.lst ds)=>wr S l (ds++[y]) .non|_=>.bad)
 | .popAt, .ref l, [.int i] => (match S.get l with
   |some (.lst ds)=>if 0<=i then (match ds[i.toNat]? with|some y=>wr S l (ds.eraseIdx i.toNat) y|none=>.bad) else .bad
   |_=>.bad)
 | .count, .ref l, [.int i] => (match S.get l with
   |some (.lst ds)=>(match wordsOf ds with|some os=>.ok (.int (os.count (some i):Nat)) S|none=>.bad)
   |_=>.bad)
 |_,_,_=>.bad
noncomputable def insOf (S:St):D->Option (Nat × List (Str × D))
 |.ref l=>(match S.get l with|some (.ins c fs)=>some (c,fs)|_=>none)
 |_=>none
noncomputable def putFD (f:Str) (v:D):List (Str × D)->List (Str × D)
 | []=>[(f,v)]
 |(g,x)::r=>if g=f then (g,v)::r else (g,x)::putFD f v r
noncomputable def setFld (S:St) (x:D) (f:Str) (v:D):Option St:=match x with
 |.ref l=>(match S.get l with|some (.ins c fs)=>if fs.length<1000 then S.put l (.ins c (putFD f v fs)) else none|_=>none)
 |_=>none
noncomputable def isNonD:D->Bool|.non=>true|_=>false
mutual
inductive CE where
 |loc (i:Nat)|con (d:D)
 |tst (a:CE)
 |bin (op:Operator) (a b:CE)|neg (a:CE)|nt (a:CE)
 |cmp (op:CmpOp) (a b:CE)
 |and (a b:CE)|or (a b:CE)|ite (c a b:CE)
 |tup (es:CEs)|lst (es:CEs)|dnew|dnewT
 |ix (a b:CE)
 |fld (a:CE) (f:Str)|mk (c f:Nat) (x:Str) (es:CEs)|meth (m:Str) (tb:List (Nat × Nat)) (o:CE) (es:CEs)|isc (cs:List Nat) (x:Str) (a:CE)|callC (f:Nat) (x m:Str) (es:CEs)|clr (a:CE)
 |call (f j:Nat) (es:CEs)|bi (b:Bi) (es:CEs)|mt (m:Mt) (o:CE) (es:CEs)
 |mkL (l:CL)|all (l:CL)
inductive CEs where
 |nil|cons (e:CE) (r:CEs)
inductive CL where
 |val (e:CE)|rng1 (a:CE)|rng2 (a b:CE)|zip (a b:CE)
 |comp (nt:Nat) (js:List Nat) (g:List Nat) (it:CL) (c:CE) (e:CE)
end
inductive CS where
 |nil|asg (i:Nat) (e:CE) (r:CS)|asgT (g:List Nat) (e:CE) (r:CS)|setF (a:CE) (f:Str) (e:CE) (r:CS)|retN (r:CS)
 |ifS (c:CE) (t u:CS) (r:CS)|forS (g:List Nat) (l:CL) (b:CS) (r:CS)|ret (e:CE) (r:CS)|expr (e:CE) (r:CS)
noncomputable abbrev Ev:=List (Option D)
noncomputable def asgAll:List Nat->List D->Ev->Ev
 |i::is,d::ds,δ=>asgAll is ds (δ.set i (some d))
 |_,_,δ=>δ
noncomputable def asgG (g:List Nat) (x:D) (δ:Ev):Option Ev:=match g with
 | [i]=>some (δ.set i (some x))
 |is=>(match x with|.tup ds=>if ds.length=is.length then some (asgAll is ds δ) else none|_=>none)
noncomputable def pairD (x y:D):D:=.tup [x,y]
noncomputable def zipOf (S:St) (x y:D):Option (List D × List Nat):=match x,y with
 | .ref l, .ref m => (match S.get l, S.get m with
   |some (.lst xs),some (.lst ys)=>some (List.zipWith pairD xs ys,[l,m])
   |_,_=>none)
 |_,_=>none
noncomputable abbrev CF:=Nat->List D->St->Out D
noncomputable def leave (S:St) (d:D) (T:St):Out D:=
 if flat S.len d then .ok d S else
 let keep:Out D:=.ok d ⟨S.frz,S.new++T.new,S.lk⟩
 match d with
  | .ref l => (match T.get l with
    |some (.lst ds)=>if flats S.len ds then .ok (.ref S.len) (S.push (.lst ds)) else keep
    |some (.dic kvs)=>if flats S.len (kvs.map (·.1))&&flats S.len (kvs.map (·.2)) then .ok (.ref S.len) (S.push (.dic kvs)) else keep
    |some (.dtp kvs)=>if flats S.len (kvs.map (·.2)) then .ok (.ref S.len) (S.push (.dtp kvs)) else keep
    |_=>keep)
  |_=>keep
noncomputable def leaveL (S:St) (d:D) (T:St):Out (List D):=match d with
 |.ref l=>if l<S.len then .bad else (match T.get l with|some (.lst ds)=>if flats S.len ds then .ok ds S else .bad|_=>.bad)
 |_=>.bad
@[irreducible] noncomputable def app (cf:CF) (f:Nat) (ds:List D) (S:St):Out D:=(cf f ds S.enter).bind fun d T=>leave S d T
@[irreducible] noncomputable def appL (cf:CF) (f:Nat) (ds:List D) (S:St):Out (List D):=(cf f ds S.enter).bind fun d T=>leaveL S d T
@[irreducible] noncomputable def appW (cf:CF) (f:Nat) (ds:List D) (S:St):Out D:=cf f ds S
noncomputable def csl (nt:Nat) (js:List Nat) (δ:Ev):Ev:=List.replicate nt none++js.map fun j=>(δ[j]?).join
noncomputable def turnsC (g:List Nat) (c:Ev->St->Out Bool) (e:Ev->St->Out D):List D->Ev->St->Out (List D)
 | [],_,S=>.ok [] S
 | x :: xs, δ, S => match asgG g x δ with
   |none=>.bad
   |some δ'=>(c δ' S).bind fun b S1=>if b then (e δ' S1).bind fun d S2=>(turnsC g c e xs δ' S2).bind fun ds S3=>.ok (d::ds) S3 else turnsC g c e xs δ' S1
noncomputable def locked {α:Type} (ls:List Nat) (S:St) (f:St->Out α):Out α:=
 (f {S with lk:=ls++S.lk}).bind fun a S'=>.ok a {S' with lk:=S.lk}
noncomputable def boolOf:D->Option Bool
 |.bl b=>some b
 |_=>none
noncomputable def allD (ds:List D):Option Bool:=(ds.mapM boolOf).map fun bs=>bs.all id
section
variable (cf:CF)
mutual
noncomputable def evE:CE->Ev->St->Out D
 |.loc i,δ,S=>lift S (δ[i]?).join
 |.con d,_,S=>.ok d S
 |.tst _,_,_=>.bad
 |.bin op a b,δ,S=>(evE a δ S).bind fun x S1=>(evE b δ S1).bind fun y S2=>binD S2 op x y
 |.neg a,δ,S=>(evE a δ S).bind fun x S1=>match x with|.int i=>.ok (.int (-i)) S1|_=>.bad
 |.nt a,δ,S=>(evE a δ S).bind fun x S1=>match x with|.bl b=>.ok (.bl (!b)) S1|_=>.bad
 |.cmp op a b,δ,S=>(evE a δ S).bind fun x S1=>(evE b δ S1).bind fun y S2=>(lift S2 (cmpD S2 op x y)).bind fun k S3=>.ok (.bl k) S3
 |.and a b,δ,S=>(evE a δ S).bind fun x S1=>match x with|.bl k=>if k then evE b δ S1 else .ok (.bl false) S1|_=>.bad
 |.or a b,δ,S=>(evE a δ S).bind fun x S1=>match x with|.bl k=>if k then .ok (.bl true) S1 else evE b δ S1|_=>.bad
 |.ite c a b,δ,S=>(evT c δ S).bind fun k S1=>if k then evE a δ S1 else evE b δ S1
 |.tup es,δ,S=>(evEs es δ S).bind fun ds S1=>if ds.length<=16777216 then .ok (.tup ds) S1 else .bad
 |.lst es,δ,S=>(evEs es δ S).bind fun ds S1=>lay S1 ds
 |.dnew,_,S=>.ok (.ref S.len) (S.push (.dic []))
 |.dnewT,_,S=>.ok (.ref S.len) (S.push (.dtp []))
 |.fld a f,δ,S=>(evE a δ S).bind fun x S1=>lift S1 ((insOf S1 x).bind fun p=>p.2.lookup f)
 |.mk c f _ es,δ,S=>(evEs es δ S).bind fun ds S1=>(appW cf f (.ref S1.len::ds) (S1.push (.ins c []))).bind fun d S2=>if isNonD d then .ok (.ref S1.len) S2 else .bad
 |.meth m tb o es,δ,S=>(evE o δ S).bind fun x S1=>(lift S1 (insOf S1 x)).bind fun p S1=>(lift S1 (tb.lookup p.1)).bind fun f S1=>if (p.2.lookup m).isNone then (evEs es δ S1).bind fun ds S2=>appW cf f (x::ds) S2 else .bad
 |.isc cs _ a,δ,S=>(evE a δ S).bind fun x S1=>(lift S1 (insOf S1 x)).bind fun p S1=>.ok (.bl (cs.contains p.1)) S1
 |.callC f _ _ es,δ,S=>(evEs es δ S).bind fun ds S1=>appW cf f ds S1
 |.clr a,δ,S=>(evE a δ S).bind fun x S1=>if isL S1 x then (match x with|.ref l=>wr S1 l [] .non|_=>.bad) else .bad
 |.ix a b,δ,S=>(evE a δ S).bind fun x S1=>(evE b δ S1).bind fun y S2=>match seqOf S2 x,y with|some ds,.int i=>lift S2 (atI ds i)|_,_=>.bad
 |.call f j es,δ,S=>(evEs es δ S).bind fun ds S1=>app cf f (ds++List.replicate j .non) S1
 |.bi b es,δ,S=>(evEs es δ S).bind fun ds S1=>R.bi S1 b ds
 |.mt m o es,δ,S=>(evE o δ S).bind fun x S1=>if isL S1 x then (evEs es δ S1).bind fun ds S2=>R.mt S2 m x ds else .bad
 |.mkL l,δ,S=>(evL l δ S).bind fun r S1=>lay S1 r.1
 |.all l,δ,S=>(evL l δ S).bind fun r S1=>(lift S1 (allD r.1)).bind fun b S2=>.ok (.bl b) S2
noncomputable def evEs:CEs->Ev->St->Out (List D)
 |.nil,_,S=>.ok [] S
 |.cons e r,δ,S=>(evE e δ S).bind fun d S1=>(evEs r δ S1).bind fun ds S2=>.ok (d::ds) S2
noncomputable def evT:CE->Ev->St->Out Bool
 |.cmp op a b,δ,S=>(evE a δ S).bind fun x S1=>(evE b δ S1).bind fun y S2=>lift S2 (cmpD S2 op x y)
 |.nt a,δ,S=>(evT a δ S).bind fun k S1=>.ok (!k) S1
 |.and a b,δ,S=>(evT a δ S).bind fun k S1=>if k then evT b δ S1 else .ok false S1
 |.or a b,δ,S=>(evT a δ S).bind fun k S1=>if k then .ok true S1 else evT b δ S1
 |.tst e,δ,S=>(evE e δ S).bind fun x S1=>lift S1 (tru S1 x)
 |_,_,_=>.bad
noncomputable def evL:CL->Ev->St->Out (List D × List Nat)
 |.val e,δ,S=>(evE e δ S).bind fun x S1=>(lift S1 (seqOf S1 x)).bind fun ds S2=>.ok (ds,lkOf S2 x) S2
 |.rng1 a,δ,S=>(evE a δ S).bind fun x S1=>match x with|.int j=>if -(2 ^ 62)<=j/\j<2 ^ 62 then .ok ((List.range j.toNat).map fun (k:Nat)=>.int k,[]) S1 else .bad|_=>.bad
 |.rng2 a b,δ,S=>(evE a δ S).bind fun x S1=>(evE b δ S1).bind fun y S2=>match x,y with
  |.int i,.int j=>if -(2 ^ 62)<=i/\i<2 ^ 62/\-(2 ^ 62)<=j/\j<2 ^ 62 then .ok ((List.range (j - i).toNat).map fun (k:Nat)=>.int (i+k),[]) S2 else .bad
  |_,_=>.bad
 |.zip a b,δ,S=>(evE a δ S).bind fun x S1=>(evE b δ S1).bind fun y S2=>lift S2 (zipOf S2 x y)
 |.comp n js g it c e,δ,S=>(evL it δ S).bind fun r S1=>(locked r.2 S1 fun S2=>turnsC g (evT c) (evE e) r.1 (csl n js δ) S2).bind fun ds S3=>if ds.length<=16777216 then .ok (ds,[]) S3 else .bad
end
inductive Fl where
 |nx (δ:Ev)|rt (d:D)
noncomputable def turnsF (g:List Nat) (b:Ev->St->Out Fl):List D->Ev->St->Out Fl
 | [],δ,S=>.ok (.nx δ) S
 | x :: xs, δ, S => match asgG g x δ with
   |none=>.bad
   | some δ' => (b δ' S).bind fun f S1 => match f with
     |.nx δ2=>turnsF g b xs δ2 S1
     |.rt d=>.ok (.rt d) S1
noncomputable def exS:CS->Ev->St->Out Fl
 |.nil,δ,S=>.ok (.nx δ) S
 |.asg i e r,δ,S=>(evE cf e δ S).bind fun x S1=>exS r (δ.set i (some x)) S1
 |.asgT g e r,δ,S=>(evE cf e δ S).bind fun x S1=>(lift S1 (asgG g x δ)).bind fun δ' S2=>exS r δ' S2
 |.setF a f e r,δ,S=>(evE cf e δ S).bind fun v S1=>(evE cf a δ S1).bind fun x S2=>match setFld S2 x f v with|some S3=>exS r δ S3|none=>.bad
 |.ifS c t u r,δ,S=>(evT cf c δ S).bind fun k S1=>(if k then exS t δ S1 else exS u δ S1).bind fun f S2=>match f with
  |.nx δ'=>exS r δ' S2
  |.rt d=>.ok (.rt d) S2
 |.forS g l b r,δ,S=>(evL cf l δ S).bind fun q S1=>(locked q.2 S1 fun S2=>turnsF g (exS b) q.1 δ S2).bind fun f S3=>match f with
  |.nx δ'=>exS r δ' S3
  |.rt d=>.ok (.rt d) S3
 |.retN _,_,S=>.ok (.rt .non) S
 |.ret e _,δ,S=>(evE cf e δ S).bind fun x S1=>.ok (.rt x) S1
 |.expr e r,δ,S=>(evE cf e δ S).bind fun _ S1=>exS r δ S1
end
inductive Prim where
 |tally
noncomputable def rowD (r:Int × Int):D:=.tup [.int r.1,.int r.2]
noncomputable def talD (os:List (Option Int)):List D:=(tallyL (countsFrom [] os)).map rowD
noncomputable def prm (S:St):Prim->List D->Out D
 | .tally, [.ref l] => (match S.get l with
   | some (.lst ws) => (match wordsOf ws with
     |some os=>if (countsFrom [] os).length<64/\os.length<=16777216 then .ok (.ref S.len) (S.push (.lst (talD os))) else .bad
     |none=>.bad)
   |_=>.bad)
 |_,_=>.bad
structure Fn where
 np:Nat
 nn:Nat
 body:CS
 prim:Option Prim
noncomputable def startE (F:Fn) (ds:List D):Ev:=ds.map some++List.replicate (F.nn - F.np) none
noncomputable def callF (P:List Fn):Nat->CF
 |0,_,_,_=>.bad
 | n + 1, f, ds, S => match P[f]? with
   | some F => if ds.length = F.np then (match F.prim with
      |some p=>if 3<=n then prm S p ds else .bad
      | none => (exS (callF P n) F.body (startE F ds) S).bind fun r T => match r with
        |.nx _=>.ok .non T
        |.rt d=>.ok d T)
     else .bad
   |none=>.bad
end R
end
section
namespace R
open PySem (Str PyData Operator CmpOp)
@[simp] theorem bind_ok {α β:Type} (a:α) (S:St) (f:α->St->Out β):(Out.ok a S).bind f=f a S:=rfl
@[simp] theorem bind_bad {α β:Type} (f:α->St->Out β):(Out.bad:Out α).bind f=.bad:=rfl
@[simp] theorem bind_err {α β:Type} (d:D) (S:St) (f:α->St->Out β):(Out.err d S:Out α).bind f=.err d S:=rfl
@[simp] theorem lift_some {α:Type} (S:St) (a:α):lift S (some a)=.ok a S:=rfl
theorem get_enter (S:St):S.enter.get=S.get:=by
 funext l
 simp only [St.get,St.enter,List.length_append,List.getElem?_append]
 by_cases h:l<S.frz.length
 · simp [h,Nat.lt_of_lt_of_le h (Nat.le_add_right _ _)]
 · simp only [h,if_false]
   split
   · rfl
   · simp only [List.getElem?_nil]
     exact (List.getElem?_eq_none (by omega)).symm
@[simp] theorem enter_frz (S:St):S.enter.frz=S.frz++S.new:=rfl
@[simp] theorem enter_new (S:St):S.enter.new=[]:=rfl
@[simp] theorem enter_lk (S:St):S.enter.lk=[]:=rfl
@[simp] theorem enter_len (S:St):S.enter.len=S.len:=by simp [St.len]
theorem len_def (S:St):(S.frz++S.new).length=S.len:=by simp [St.len]
theorem get_lt {S:St} {l:Nat} {o:MO} (h:S.get l=some o):l<S.len:=by
 unfold St.get at h
 unfold St.len
 split at h
 · omega
 · have:=(List.getElem?_eq_some_iff.mp h).1
   omega
theorem get_old {S:St} {l:Nat} {o:MO} (h:S.get l=some o) (nw:List MO) (lk:List Nat):(St.mk (S.frz++S.new) nw lk).get l=some o:=by
 have hl:=get_lt h
 rw [<-get_enter] at h
 unfold St.get at h⊢
 have e:l<(S.frz++S.new).length:=by rw [len_def];exact hl
 simp only [enter_frz,e,if_true] at h⊢
 exact h
theorem get_new (F nw:List MO) (lk:List Nat) (i:Nat):(St.mk F nw lk).get (F.length+i)=nw[i]?:=by
 have:¬F.length+i<F.length:=by omega
 simp [St.get,this]
theorem get_new0 (F nw:List MO) (lk:List Nat):(St.mk F nw lk).get F.length=nw[0]?:=get_new F nw lk 0
@[simp] theorem flat_non (n:Nat):flat n .non=true:=by simp [flat]
@[simp] theorem flat_bl (n:Nat) (b:Bool):flat n (.bl b)=true:=by simp [flat]
@[simp] theorem flat_int (n:Nat) (i:Int):flat n (.int i)=true:=by simp [flat]
@[simp] theorem flat_str (n:Nat) (x:Str):flat n (.str x)=true:=by simp [flat]
@[simp] theorem flat_tup (n:Nat) (ds:List D):flat n (.tup ds)=flats n ds:=by simp [flat]
@[simp] theorem flat_fix (n:Nat) (ds:List D):flat n (.fix ds)=flats n ds:=by simp [flat]
@[simp] theorem flats_nil (n:Nat):flats n []=true:=by simp [flats]
@[simp] theorem flats_cons (n:Nat) (d:D) (ds:List D):flats n (d::ds)=(flat n d&&flats n ds):=by simp [flats]
@[simp] theorem flats_append (n : Nat) : ∀ ds es : List D, flats n (ds ++ es) = (flats n ds && flats n es)
  | [],es=>by simp
  |d::ds,es=>by simp [flats_append n ds es,Bool.and_assoc]
theorem flats_iff (n:Nat):∀ds:List D,flats n ds=true↔∀d∈ds,flat n d=true
 | []=>by simp
 |d::ds=>by simp [flats_iff n ds]
@[simp] theorem flats_ints (n:Nat) (ns:List Int):flats n (ns.map D.int)=true:=by rw [flats_iff];simp
@[simp] theorem leave_flat (S:St) (d:D) (T:St) (h:flat S.len d=true):leave S d T=.ok d S:=by simp [leave,h]
noncomputable def W {α:Type} (o:Out α) (Q:α->St->Prop):Prop:=match o with
 |.ok a S=>Q a S
 |_=>False
@[simp] theorem W_ok {α:Type} (a:α) (S:St) (Q:α->St->Prop):W (.ok a S) Q=Q a S:=rfl
@[simp] theorem W_bad {α:Type} (Q:α->St->Prop):W (.bad:Out α) Q=False:=rfl
@[simp] theorem W_err {α:Type} (d:D) (S:St) (Q:α->St->Prop):W (.err d S:Out α) Q=False:=rfl
@[simp] theorem W_bind {α β : Type} (o : Out α) (f : α → St → Out β) (Q : β → St → Prop) : W (o.bind f) Q = W o fun a S => W (f a S) Q := by
  cases o<;>rfl
theorem W.mono {α:Type} {o:Out α} {Q Q':α->St->Prop} (h:W o Q) (hq:∀a S,Q a S->Q' a S):W o Q':=by
 cases o with
 |ok a S=>exact hq a S h
 |err d S=>exact h
 |bad=>exact h
theorem W.eq {α:Type} {o:Out α} {d:α} {S:St} (h:W o fun a T=>a=d/\T=S):o=.ok d S:=by
 cases o with
 |ok a T=>obtain ⟨rfl,rfl⟩:=h;rfl
 |err d S=>exact False.elim h
 |bad=>exact False.elim h
theorem W.of {α:Type} {o:Out α} {d:α} {S:St} {Q:α->St->Prop} (h:o=.ok d S) (q:Q d S):W o Q:=by rw [h];exact q
theorem W.iff {α:Type} {o:Out α} {Q:α->St->Prop}:W o Q↔∃a S,o=.ok a S/\Q a S:=by
 cases o with
 |ok a S=>exact ⟨fun h=>⟨a,S,rfl,h⟩,fun ⟨_,_,e,h⟩=>by cases e;exact h⟩
 |err d S=>exact ⟨fun h=>h.elim,fun ⟨_,_,e,_⟩=>nomatch e⟩
 |bad=>exact ⟨fun h=>h.elim,fun ⟨_,_,e,_⟩=>nomatch e⟩
noncomputable def fin (S:St) (r:Fl) (T:St):Out D:=match r with
 |.nx _=>leave S .non T
 |.rt d=>leave S d T
@[simp] theorem fin_rt (S T:St) (d:D):fin S (.rt d) T=leave S d T:=rfl
@[simp] theorem fin_nx (S T:St) (δ:Ev):fin S (.nx δ) T=.ok .non S:=by simp [fin]
theorem app_eq {P:List Fn} {F:Fn} {f n:Nat} {ds:List D} {S:St} (h:P[f]?=some F) (hl:ds.length=F.np) (hp:F.prim=none:=by rfl) :
  app (callF P (n+1)) f ds S=(exS (callF P n) F.body (startE F ds) S.enter).bind fun r T=>fin S r T:=by
 simp only [app,callF,h,hl,hp,if_true]
 generalize exS (callF P n) F.body (startE F ds) S.enter=o
 cases o with
 |ok r T=>cases r<;>rfl
 |err d S=>rfl
 |bad=>rfl
noncomputable def finL (S:St) (r:Fl) (T:St):Out (List D):=match r with
 |.nx _=>.bad
 |.rt d=>leaveL S d T
@[simp] theorem finL_rt (S T:St) (d:D):finL S (.rt d) T=leaveL S d T:=rfl
theorem turnsF_inv {g:List Nat} {b:Ev->St->Out Fl} (I:Nat->Ev->St->Prop) (Rt:D->St->Prop):∀(xs:List D) (k:Nat) (δ:Ev) (S:St),I k δ S->
  (∀i x δ S,xs[i]?=some x->I (k+i) δ S->∃δ',asgG g x δ=some δ'/\W (b δ' S) fun f S'=>match f with|.nx δ2=>I (k+i+1) δ2 S'|.rt d=>Rt d S')->
  W (turnsF g b xs δ S) fun f S'=>match f with|.nx δ'=>I (k+xs.length) δ' S'|.rt d=>Rt d S'
 | [],k,δ,S,h,_=>by simpa [turnsF] using h
 | x :: xs, k, δ, S, h, step => by
   obtain ⟨δ',e,w⟩:=step 0 x δ S rfl h
   simp only [turnsF,e,W_bind]
   refine w.mono fun f S1 hf=>?_
   cases f with
   |rt d=>exact hf
   | nx δ2 =>
     have ih:=turnsF_inv I Rt xs (k+1) δ2 S1 hf (fun i y δ S hy hi=>by
      have:=step (i+1) y δ S (by simpa using hy) (by rw [show k+(i+1)=k+1+i by omega];exact hi)
      rw [show k+(i+1)+1=k+1+i+1 by omega] at this
      exact this)
     rw [show k+1+xs.length=k+(x::xs).length by simp;omega] at ih
     exact ih
theorem turnsC_pure {c:Ev->St->Out Bool} {e:Ev->St->Out D} {S:St} {rest:Ev} (p:D->Bool) (f:D->D):∀(xs:List D) (o:Option D),
  (∀x∈xs,c (some x::rest) S=.ok (p x) S)->(∀x∈xs,p x=true->e (some x::rest) S=.ok (f x) S)->turnsC [0] c e xs (o::rest) S=.ok ((xs.filter p).map f) S
 | [],o,_,_=>rfl
 | x :: xs, o, hc, he => by
   have ih:=turnsC_pure p f xs (some x) (fun y hy=>hc y (List.mem_cons_of_mem _ hy)) (fun y hy=>he y (List.mem_cons_of_mem _ hy))
   simp only [turnsC,asgG,List.set_cons_zero,hc x List.mem_cons_self,bind_ok]
   cases hp:p x with
   |false=>simp [ih,hp]
   |true=>simp [ih,hp,he x List.mem_cons_self hp]
@[simp] theorem locked_nil {α:Type} (S:St) (f:St->Out α):locked [] S f=(f S).bind fun a S'=>.ok a {S' with lk:=S.lk}:=rfl
end R
end
section
namespace R
open PySem (Str PyData Operator CmpOp)
noncomputable def wIf (c:Bool) (P Q:Prop):Prop:=match c with|true=>P|false=>Q
@[irreducible] noncomputable def wOpt {α:Type} (o:Option α) (k:α->Prop):Prop:=match o with|some a=>k a|none=>False
@[irreducible] noncomputable def wNeed (p k:Prop):Prop:=p/\k
@[irreducible] noncomputable def wOut {α:Type} (o:Out α) (Q:α->St->Prop):Prop:=W o Q
theorem wIf_t {c:Bool} {P Q:Prop} (h:c=true) (k:P):wIf c P Q:=by subst h;exact k
theorem wIf_f {c:Bool} {P Q:Prop} (h:c=false) (k:Q):wIf c P Q:=by subst h;exact k
theorem wIf_i {c:Bool} {P Q:Prop} (h1:c=true->P) (h2:c=false->Q):wIf c P Q:=by
 cases c with
 |true=>exact wIf_t rfl (h1 rfl)
 |false=>exact wIf_f rfl (h2 rfl)
theorem wIf_p {p:Prop} [Decidable p] {P Q:Prop} (h1:p->P) (h2:¬p->Q):wIf (decide p) P Q:=wIf_i (fun h=>h1 (of_decide_eq_true h)) (fun h=>h2 (of_decide_eq_false h))
theorem wOpt_of {α:Type} {o:Option α} {k:α->Prop} {a:α} (h:o=some a) (q:k a):wOpt o k:=by unfold wOpt;rw [h];exact q
theorem wNeed_of {p k:Prop} (h:p) (q:k):wNeed p k:=by unfold wNeed;exact ⟨h,q⟩
theorem wOut_of {α:Type} {o:Out α} {Q:α->St->Prop} {a:α} {S:St} (h:o=.ok a S) (q:Q a S):wOut o Q:=by unfold wOut;rw [h];exact q
theorem wOut_W {α:Type} {o:Out α} {Q:α->St->Prop} (h:W o Q):wOut o Q:=by unfold wOut;exact h
noncomputable abbrev wGet (S:St) (l:Nat) (k:MO->Prop):Prop:=wOpt (S.get l) k
noncomputable abbrev wPut (S:St) (l:Nat) (o:MO) (k:St->Prop):Prop:=wOpt (S.put l o) k
theorem wGet_old {S:St} {l:Nat} {o:MO} {nw:List MO} {lk:List Nat} {k:MO->Prop} (h:S.get l=some o) (q:k o):wGet (St.mk (S.frz++S.new) nw lk) l k:=wOpt_of (get_old h nw lk) q
theorem wGet_new {F nw:List MO} {lk:List Nat} {i:Nat} {o:MO} {k:MO->Prop} (h:nw[i]?=some o) (q:k o):wGet (St.mk F nw lk) (F.length+i) k:=wOpt_of ((get_new F nw lk i).trans h) q
theorem put_new {F nw:List MO} {lk:List Nat} {i:Nat} {o:MO} (h:lk.contains (F.length+i)=false):(St.mk F nw lk).put (F.length+i) o=some ⟨F,nw.set i o,lk⟩:=by
 have h1:¬F.length+i<F.length:=by omega
 simp only [St.put,h1,if_false,h,Bool.false_eq_true,Nat.add_sub_cancel_left]
theorem wPut_new {F nw:List MO} {lk:List Nat} {i:Nat} {o:MO} {k:St->Prop} (h:lk.contains (F.length+i)=false) (q:k ⟨F,nw.set i o,lk⟩):wPut (St.mk F nw lk) (F.length+i) o k:=wOpt_of (put_new h) q
noncomputable def wLay (S:St) (ds:List D) (Q:D->St->Prop):Prop:=wNeed (ds.length<=16777216) (Q (.ref S.len) (S.push (.lst ds)))
theorem wLay_W {S:St} {ds:List D} {Q:D->St->Prop} (h:wLay S ds Q):W (lay S ds) Q:=by
 unfold wLay wNeed at h
 unfold lay
 rw [if_pos h.1];exact h.2
noncomputable def wWr (S:St) (l:Nat) (ds:List D) (d:D) (Q:D->St->Prop):Prop:=wNeed (ds.length<=16777216) (wPut S l (.lst ds) fun S'=>Q d S')
theorem wWr_W {S:St} {l:Nat} {ds:List D} {d:D} {Q:D->St->Prop} (h:wWr S l ds d Q):W (wr S l ds d) Q:=by
 unfold wWr wNeed wPut wOpt at h
 unfold wr
 rw [if_pos h.1]
 have h2:=h.2
 cases e:S.put l (.lst ds) with
 |none=>rw [e] at h2;exact h2.elim
 |some S'=>rw [e] at h2;exact h2
noncomputable def wBinI (S:St) (op:Operator) (i j:Int) (Q:D->St->Prop):Prop:=match op with
 |.Add=>Q (.int (i+j)) S
 |.Sub=>Q (.int (i - j)) S
 |.Mult=>wNeed (mulOk i j=true) (Q (.int (i * j)) S)
 |.FloorDiv=>wNeed (0<j/\j<1073741824) (Q (.int (i / j)) S)
 |.Mod=>wNeed (0<j) (Q (.int (i % j)) S)
 |.Pow=>wNeed (0<=j/\j<=1000000/\-18446744073709551616<i/\i<18446744073709551616) (Q (.int (i ^ j.toNat)) S)
 |_=>False
noncomputable def wBin (S:St) (op:Operator) (x y:D) (Q:D->St->Prop):Prop:=match x,y with
 |.int i,.int j=>wBinI S op i j Q
 |.tup xs,.tup ys=>(match op with|.Add=>wNeed (xs.length+ys.length<=16777216) (Q (.tup (xs++ys)) S)|_=>False)
 |.ref a,.ref b=>(match op with|.Add=>wGet S a fun o=>wGet S b fun u=>(match o,u with|.lst xs,.lst ys=>wLay S (xs++ys) Q|_,_=>False)|_=>False)
 |_,_=>False
theorem wBin_W {S:St} {op:Operator} {x y:D} {Q:D->St->Prop} (h:wBin S op x y Q):W (binD S op x y) Q:=by
 unfold wBin at h
 unfold binD
 split at h
 · unfold wBinI wNeed at h
   unfold binI
   split at h<;>(try dsimp only)<;>first|exact h|(rw [if_pos h.1];exact h.2)|exact False.elim h
 · split at h
   · unfold wNeed at h
     (try simp only)
     rw [if_pos h.1];exact h.2
   · exact h.elim
 · split at h
   · unfold wGet wOpt at h
     (try simp only)
     cases ea:S.get _ with
     |none=>simp only [ea] at h
     | some o =>
       simp only [ea] at h
       cases eb:S.get _ with
       |none=>simp only [eb] at h
       | some u =>
         simp only [eb] at h
         cases o<;>cases u<;>first|exact wLay_W h|exact h.elim
   · exact h.elim
 · exact h.elim
noncomputable def wCmp (S:St) (op:CmpOp) (x y:D) (Q:Bool->Prop):Prop:=match x,y with
 |.int i,.int j=>(match cmpI op i j with|some k=>Q k|none=>False)
 | _, _ => (match op with
   |.Is=>(match cmpO S .Is x y with|some k=>Q k|none=>False)
   |.IsNot=>(match cmpO S .IsNot x y with|some k=>Q k|none=>False)
   |_=>wOpt (cmpO S op x y) Q)
theorem cmpD_ne {S:St} {op:CmpOp} {x y:D} (h:∀i j,x=.int i->y=.int j->False):cmpD S op x y=cmpO S op x y:=by
 unfold cmpD
 split
 · rename_i i j;exact (h i j rfl rfl).elim
 · rfl
theorem wCmp_ex {S:St} {op:CmpOp} {x y:D} {Q:Bool->Prop} (h:wCmp S op x y Q):∃k,cmpD S op x y=some k/\Q k:=by
 have fin:∀o:Option Bool,(match o with|some k=>Q k|none=>False)->∃k,o=some k/\Q k:=fun o q=>by
  cases o with
  |none=>exact q.elim
  |some k=>exact ⟨k,rfl,q⟩
 unfold wCmp at h
 split at h
 · exact fin _ h
 · rename_i hn
   rw [cmpD_ne hn]
   split at h
   · exact fin _ h
   · exact fin _ h
   · unfold wOpt at h
     cases e:cmpO S op x y with
     |none=>rw [e] at h;exact h.elim
     |some k=>rw [e] at h;exact ⟨k,rfl,h⟩
theorem wCmp_W {S:St} {op:CmpOp} {x y:D} {Q:Bool->St->Prop} (h:wCmp S op x y fun k=>Q k S):W (lift S (cmpD S op x y)) Q:=by
 obtain ⟨k,e,q⟩:=wCmp_ex h
 rw [e];exact q
noncomputable def wBi (S:St) (b:Bi) (ds:List D) (Q:D->St->Prop):Prop:=match b,ds with
 | .len, [x] => (match x with
   |.tup ds=>Q (.int ds.length) S
   |.fix ds=>Q (.int ds.length) S
   |.ref l=>wGet S l fun o=>(match o with|.lst ds=>Q (.int ds.length) S|.dic kvs=>Q (.int kvs.length) S|_=>False)
   |_=>False)
 |.abs,[.int i]=>Q (.int (if i<0 then -i else i)) S
 |.max2,[.int i,.int j]=>Q (.int (if j > i then j else i)) S
 |.min2,[.int i,.int j]=>Q (.int (if j<i then j else i)) S
 |.isin t,[x]=>wOpt (tyOf S x) fun a=>Q (.bl (a == t || (a == "bool"&&t == "int"))) S
 |_,_=>False
theorem wBi_W {S:St} {b:Bi} {ds:List D} {Q:D->St->Prop} (h:wBi S b ds Q):W (bi S b ds) Q:=by
 unfold wBi at h
 split at h
 · split at h
   · exact h
   · exact h
   · rename_i l
     unfold wGet wOpt at h
     simp only [bi]
     cases e:S.get l with
     |none=>rw [e] at h;exact h.elim
     |some o=>rw [e] at h;cases o<;>first|exact h|exact h.elim
   · exact h.elim
 · exact h
 · exact h
 · exact h
 · rename_i t x
   unfold wOpt at h
   simp only [bi]
   cases e:tyOf S x with
   |none=>rw [e] at h;exact h.elim
   |some a=>rw [e] at h;exact h
 · exact h.elim
noncomputable def wIsL (S:St) (x:D) (P:Prop):Prop:=match x with
 |.ref l=>wGet S l fun o=>(match o with|.lst _=>P|_=>False)
 |_=>False
theorem wIsL_of {S:St} {x:D} {P:Prop} (h:wIsL S x P):isL S x=true/\P:=by
 unfold wIsL at h
 split at h
 · rename_i l
   unfold wGet wOpt at h
   unfold isL
   cases e:S.get l with
   |none=>rw [e] at h;exact h.elim
   | some o =>
     rw [e] at h
     cases o with
     |lst ds=>exact ⟨by simp [e],h⟩
     |_=>exact False.elim h
 · exact h.elim
noncomputable def wMt (S:St) (m:Mt) (x:D) (ds:List D) (Q:D->St->Prop):Prop:=match m,x,ds with
 |.append,.ref l,[y]=>wGet S l fun o=>(match o with|.lst ds=>wWr S l (ds++[y]) .non Q|_=>False)
 | .popAt, .ref l, [.int i] => wGet S l fun o => (match o with
   |.lst ds=>wNeed (0<=i) (wOpt ds[i.toNat]? fun y=>wWr S l (ds.eraseIdx i.toNat) y Q)
   |_=>False)
 | .count, .ref l, [.int i] => wGet S l fun o => (match o with
   |.lst ds=>wOpt (wordsOf ds) fun os=>Q (.int (os.count (some i):Nat)) S
   |_=>False)
 |_,_,_=>False
theorem wMt_W {S:St} {m:Mt} {x:D} {ds:List D} {Q:D->St->Prop} (h:wMt S m x ds Q):W (mt S m x ds) Q:=by
 unfold wMt at h
 split at h
 · rename_i l y
   unfold wGet wOpt at h
   simp only [mt]
   cases e:S.get l with
   |none=>rw [e] at h;exact h.elim
   |some o=>rw [e] at h;cases o<;>first|exact wWr_W h|exact h.elim
 · rename_i l i
   unfold wGet wOpt wNeed at h
   simp only [mt]
   cases e:S.get l with
   |none=>rw [e] at h;exact h.elim
   | some o =>
     rw [e] at h
     cases o with
     | lst ds =>
       simp only at h⊢
       rw [if_pos h.1]
       have h2:=h.2
       cases e2:ds[i.toNat]? with
       |none=>rw [e2] at h2;exact h2.elim
       |some y=>rw [e2] at h2;exact wWr_W h2
     |_=>exact h.elim
 · rename_i l i
   unfold wGet wOpt at h
   simp only [mt]
   cases e:S.get l with
   |none=>rw [e] at h;exact h.elim
   | some o =>
     rw [e] at h
     cases o with
     | lst ds =>
       simp only at h⊢
       cases e2:wordsOf ds with
       |none=>rw [e2] at h;exact h.elim
       |some y=>rw [e2] at h;exact h
     |_=>exact h.elim
 · exact h.elim
noncomputable def wSeq (S:St) (x:D) (k:List D->Prop):Prop:=match x with
 |.tup ds=>k ds
 |.fix ds=>k ds
 |.ref l=>wGet S l fun o=>(match o with|.lst ds=>k ds|_=>False)
 |_=>False
theorem wSeq_of {S:St} {x:D} {k:List D->Prop} (h:wSeq S x k):∃ds,seqOf S x=some ds/\k ds:=by
 unfold wSeq at h
 unfold seqOf
 split at h
 · exact ⟨_,rfl,h⟩
 · exact ⟨_,rfl,h⟩
 · rename_i l
   unfold wGet wOpt at h
   cases e:S.get l with
   |none=>rw [e] at h;exact h.elim
   | some o =>
     rw [e] at h
     cases o with
     |lst ds=>exact ⟨ds,by simp [e],h⟩
     |dic _=>exact False.elim h
     |ins _ _=>exact False.elim h
     |dtp _=>exact False.elim h
 · exact h.elim
noncomputable def wTru (S:St) (x:D) (Q:Bool->Prop):Prop:=match x with
 |.bl b=>Q b
 |.non=>Q false
 |.int i=>Q (i != 0)
 |.tup ds=>Q (!ds.isEmpty)
 |.ref l=>wGet S l fun o=>(match o with|.lst ds=>Q (!ds.isEmpty)|_=>False)
 |_=>False
theorem wTru_W {S:St} {x:D} {Q:Bool->St->Prop} (h:wTru S x fun k=>Q k S):W (lift S (tru S x)) Q:=by
 unfold wTru at h
 unfold tru
 split at h
 · exact h
 · exact h
 · exact h
 · exact h
 · rename_i l
   unfold wGet wOpt at h
   simp only
   cases e:S.get l with
   |none=>rw [e] at h;exact h.elim
   |some o=>rw [e] at h;cases o<;>first|exact h|exact h.elim
 · exact h.elim
@[irreducible] noncomputable def wLock {α:Type} (ls:List Nat) (S:St) (f:St->Out α) (Q:α->St->Prop):Prop:=W (locked ls S f) Q
theorem wLock_W {α:Type} {ls:List Nat} {S:St} {f:St->Out α} {Q:α->St->Prop} (h:wLock ls S f Q):W (locked ls S f) Q:=by unfold wLock at h;exact h
theorem wLock_of {α:Type} {ls:List Nat} {S:St} {f:St->Out α} {Q:α->St->Prop} (h:W (f {S with lk:=ls++S.lk}) fun a T=>Q a {T with lk:=S.lk}):wLock ls S f Q:=by
 unfold wLock locked
 rw [W_bind];exact h
section
variable (cf:CF)
mutual
noncomputable def wE:CE->Ev->St->(D->St->Prop)->Prop
 |.loc i,δ,S,Q=>(match (δ[i]?).join with|some d=>Q d S|none=>False)
 |.con d,_,S,Q=>Q d S
 |.tst _,_,_,_=>False
 |.bin op a b,δ,S,Q=>wE a δ S fun x S1=>wE b δ S1 fun y S2=>wBin S2 op x y Q
 |.neg a,δ,S,Q=>wE a δ S fun x S1=>(match x with|.int i=>Q (.int (-i)) S1|_=>False)
 |.nt a,δ,S,Q=>wE a δ S fun x S1=>(match x with|.bl b=>Q (.bl (!b)) S1|_=>False)
 |.cmp op a b,δ,S,Q=>wE a δ S fun x S1=>wE b δ S1 fun y S2=>wCmp S2 op x y fun k=>Q (.bl k) S2
 |.and a b,δ,S,Q=>wE a δ S fun x S1=>(match x with|.bl k=>wIf k (wE b δ S1 Q) (Q (.bl false) S1)|_=>False)
 |.or a b,δ,S,Q=>wE a δ S fun x S1=>(match x with|.bl k=>wIf k (Q (.bl true) S1) (wE b δ S1 Q)|_=>False)
 |.ite c a b,δ,S,Q=>wT c δ S fun k S1=>wIf k (wE a δ S1 Q) (wE b δ S1 Q)
 |.tup es,δ,S,Q=>wEs es δ S fun ds S1=>wNeed (ds.length<=16777216) (Q (.tup ds) S1)
 |.lst es,δ,S,Q=>wEs es δ S fun ds S1=>wLay S1 ds Q
 |.dnew,_,S,Q=>Q (.ref S.len) (S.push (.dic []))
 |.dnewT,_,S,Q=>Q (.ref S.len) (S.push (.dtp []))
 |.fld a f,δ,S,Q=>wE a δ S fun x S1=>wOpt ((insOf S1 x).bind fun p=>p.2.lookup f) fun v=>Q v S1
 |.mk c f _ es,δ,S,Q=>wEs es δ S fun ds S1=>wOut (appW cf f (.ref S1.len::ds) (S1.push (.ins c []))) fun d S2=>wNeed (isNonD d=true) (Q (.ref S1.len) S2)
 |.meth m tb o es,δ,S,Q=>wE o δ S fun x S1=>wOpt (insOf S1 x) fun p=>wOpt (tb.lookup p.1) fun f=>wNeed ((p.2.lookup m).isNone=true) (wEs es δ S1 fun ds S2=>wOut (appW cf f (x::ds) S2) Q)
 |.isc cs _ a,δ,S,Q=>wE a δ S fun x S1=>wOpt (insOf S1 x) fun p=>Q (.bl (cs.contains p.1)) S1
 |.callC f _ _ es,δ,S,Q=>wEs es δ S fun ds S1=>wOut (appW cf f ds S1) Q
 |.clr a,δ,S,Q=>wE a δ S fun x S1=>wIsL S1 x (match x with|.ref l=>wWr S1 l [] .non Q|_=>False)
 |.ix a b,δ,S,Q=>wE a δ S fun x S1=>wE b δ S1 fun y S2=>wSeq S2 x fun ds=>(match y with|.int i=>wOpt (atI ds i) fun d=>Q d S2|_=>False)
 |.call f j es,δ,S,Q=>wEs es δ S fun ds S1=>wOut (app cf f (ds++List.replicate j .non) S1) Q
 |.bi b es,δ,S,Q=>wEs es δ S fun ds S1=>wBi S1 b ds Q
 |.mt m o es,δ,S,Q=>wE o δ S fun x S1=>wIsL S1 x (wEs es δ S1 fun ds S2=>wMt S2 m x ds Q)
 |.mkL l,δ,S,Q=>wL l δ S fun r S1=>wLay S1 r.1 Q
 |.all l,δ,S,Q=>wL l δ S fun r S1=>wOpt (allD r.1) fun b=>Q (.bl b) S1
noncomputable def wEs:CEs->Ev->St->(List D->St->Prop)->Prop
 |.nil,_,S,Q=>Q [] S
 |.cons e r,δ,S,Q=>wE e δ S fun d S1=>wEs r δ S1 fun ds S2=>Q (d::ds) S2
noncomputable def wT:CE->Ev->St->(Bool->St->Prop)->Prop
 |.cmp op a b,δ,S,Q=>wE a δ S fun x S1=>wE b δ S1 fun y S2=>wCmp S2 op x y fun k=>Q k S2
 |.nt a,δ,S,Q=>wT a δ S fun k S1=>Q (!k) S1
 |.and a b,δ,S,Q=>wT a δ S fun k S1=>wIf k (wT b δ S1 Q) (Q false S1)
 |.or a b,δ,S,Q=>wT a δ S fun k S1=>wIf k (Q true S1) (wT b δ S1 Q)
 |.tst e,δ,S,Q=>wE e δ S fun x S1=>wTru S1 x fun k=>Q k S1
 |_,_,_,_=>False
noncomputable def wL:CL->Ev->St->(List D × List Nat->St->Prop)->Prop
 |.val e,δ,S,Q=>wE e δ S fun x S1=>wSeq S1 x fun ds=>Q (ds,lkOf S1 x) S1
 |.rng1 a,δ,S,Q=>wE a δ S fun x S1=>(match x with|.int j=>wNeed (-(2 ^ 62)<=j/\j<2 ^ 62) (Q ((List.range j.toNat).map fun (k:Nat)=>.int k,[]) S1)|_=>False)
 |.rng2 a b,δ,S,Q=>wE a δ S fun x S1=>wE b δ S1 fun y S2=>(match x,y with
  |.int i,.int j=>wNeed (-(2 ^ 62)<=i/\i<2 ^ 62/\-(2 ^ 62)<=j/\j<2 ^ 62) (Q ((List.range (j - i).toNat).map fun (k:Nat)=>.int (i+k),[]) S2)
  |_,_=>False)
 |.zip a b,δ,S,Q=>wE a δ S fun x S1=>wE b δ S1 fun y S2=>wOpt (zipOf S2 x y) fun r=>Q r S2
 |.comp n js g it c e,δ,S,Q=>wL it δ S fun r S1=>wLock r.2 S1 (fun S2=>turnsC g (evT cf c) (evE cf e) r.1 (csl n js δ) S2) fun ds S3=>wNeed (ds.length<=16777216) (Q (ds,[]) S3)
end
noncomputable def wS:CS->Ev->St->(Fl->St->Prop)->Prop
 |.nil,δ,S,Q=>Q (.nx δ) S
 |.asg i e r,δ,S,Q=>wE cf e δ S fun x S1=>wS r (δ.set i (some x)) S1 Q
 |.asgT g e r,δ,S,Q=>wE cf e δ S fun x S1=>wOpt (asgG g x δ) fun δ'=>wS r δ' S1 Q
 |.setF a f e r,δ,S,Q=>wE cf e δ S fun v S1=>wE cf a δ S1 fun x S2=>wOpt (setFld S2 x f v) fun S3=>wS r δ S3 Q
 |.ifS c t u r,δ,S,Q=>wT cf c δ S fun k S1=>wIf k (wS t δ S1 fun f S2=>(match f with|.nx δ'=>wS r δ' S2 Q|.rt d=>Q (.rt d) S2)) (wS u δ S1 fun f S2=>(match f with|.nx δ'=>wS r δ' S2 Q|.rt d=>Q (.rt d) S2))
 |.forS g l b r,δ,S,Q=>wL cf l δ S fun q S1=>wLock q.2 S1 (fun S2=>turnsF g (exS cf b) q.1 δ S2) fun f S3=>(match f with|.nx δ'=>wS r δ' S3 Q|.rt d=>Q (.rt d) S3)
 |.retN _,_,S,Q=>Q (.rt .non) S
 |.ret e _,δ,S,Q=>wE cf e δ S fun x S1=>Q (.rt x) S1
 |.expr e r,δ,S,Q=>wE cf e δ S fun _ S1=>wS r δ S1 Q
end
section
variable {cf:CF}
mutual
theorem wE_W:∀(e:CE) {δ:Ev} {S:St} {Q:D->St->Prop},wE cf e δ S Q->W (evE cf e δ S) Q
 | .loc i, δ, S, Q, h => by
   simp only [wE] at h
   simp only [evE]
   cases e:(δ[i]?).join with
   |none=>rw [e] at h;exact h.elim
   |some d=>rw [e] at h;exact h
 |.con d,δ,S,Q,h=>by simp only [wE] at h;simp only [evE];exact h
 |.tst _,δ,S,Q,h=>by simp only [wE] at h
 | .bin op a b, δ, S, Q, h => by
   simp only [wE] at h
   simp only [evE,W_bind]
   exact (wE_W a h).mono fun x S1 h1=>(wE_W b h1).mono fun y S2 h2=>wBin_W h2
 | .neg a, δ, S, Q, h => by
   simp only [wE] at h
   simp only [evE,W_bind]
   refine (wE_W a h).mono fun x S1 h1=>?_
   cases x<;>first|exact h1|exact h1.elim
 | .nt a, δ, S, Q, h => by
   simp only [wE] at h
   simp only [evE,W_bind]
   refine (wE_W a h).mono fun x S1 h1=>?_
   cases x<;>first|exact h1|exact h1.elim
 | .cmp op a b, δ, S, Q, h => by
   simp only [wE] at h
   simp only [evE,W_bind,W_ok]
   exact (wE_W a h).mono fun x S1 h1=>(wE_W b h1).mono fun y S2 h2=>wCmp_W (Q:=fun k S=>Q (.bl k) S) h2
 | .and a b, δ, S, Q, h => by
   simp only [wE] at h
   simp only [evE,W_bind]
   refine (wE_W a h).mono fun x S1 h1=>?_
   cases x with
   | bl k =>
     unfold wIf at h1
     cases k with
     |false=>exact h1
     |true=>exact wE_W b h1
   |_=>exact h1.elim
 | .or a b, δ, S, Q, h => by
   simp only [wE] at h
   simp only [evE,W_bind]
   refine (wE_W a h).mono fun x S1 h1=>?_
   cases x with
   | bl k =>
     unfold wIf at h1
     cases k with
     |true=>exact h1
     |false=>exact wE_W b h1
   |_=>exact h1.elim
 | .ite c a b, δ, S, Q, h => by
   simp only [wE] at h
   simp only [evE,W_bind]
   refine (wT_W c h).mono fun k S1 h1=>?_
   unfold wIf at h1
   cases k with
   |true=>exact wE_W a h1
   |false=>exact wE_W b h1
 | .tup es, δ, S, Q, h => by
   simp only [wE] at h
   simp only [evE,W_bind]
   refine (wEs_W es h).mono fun ds S1 h1=>?_
   unfold wNeed at h1
   rw [if_pos h1.1];exact h1.2
 | .lst es, δ, S, Q, h => by
   simp only [wE] at h
   simp only [evE,W_bind]
   exact (wEs_W es h).mono fun ds S1 h1=>wLay_W h1
 |.dnew,δ,S,Q,h=>by simp only [wE] at h;simp only [evE];exact h
 |.dnewT,δ,S,Q,h=>by simp only [wE] at h;simp only [evE];exact h
 | .fld a f, δ, S, Q, h => by
   simp only [wE] at h
   simp only [evE,W_bind]
   refine (wE_W a h).mono fun x S1 h1=>?_
   unfold wOpt at h1
   cases e:(insOf S1 x).bind fun p=>p.2.lookup f with
   |none=>rw [e] at h1;exact h1.elim
   |some o=>rw [e] at h1;exact h1
 | .mk c f _ es, δ, S, Q, h => by
   simp only [wE] at h
   simp only [evE,W_bind]
   refine (wEs_W es h).mono fun ds S1 h1=>?_
   unfold wOut at h1
   refine h1.mono fun d S2 h2=>?_
   unfold wNeed at h2
   rw [if_pos h2.1];exact h2.2
 | .meth m tb o es, δ, S, Q, h => by
   simp only [wE] at h
   simp only [evE,W_bind]
   refine (wE_W o h).mono fun x S1 h1=>?_
   unfold wOpt at h1
   cases e:insOf S1 x with
   |none=>rw [e] at h1;exact h1.elim
   | some p =>
     rw [e] at h1
     dsimp only at h1
     cases e2:tb.lookup p.1 with
     |none=>rw [e2] at h1;exact h1.elim
     | some f =>
       rw [e2] at h1
       unfold wNeed at h1
       simp only [lift_some,W_ok]
       rw [e2,lift_some,W_ok,if_pos h1.1,W_bind]
       refine (wEs_W es h1.2).mono fun ds S2 h2=>?_
       unfold wOut at h2;exact h2
 | .isc cs _ a, δ, S, Q, h => by
   simp only [wE] at h
   simp only [evE,W_bind]
   refine (wE_W a h).mono fun x S1 h1=>?_
   unfold wOpt at h1
   cases e:insOf S1 x with
   |none=>rw [e] at h1;exact h1.elim
   |some p=>rw [e] at h1;exact h1
 | .callC f _ _ es, δ, S, Q, h => by
   simp only [wE] at h
   simp only [evE,W_bind]
   refine (wEs_W es h).mono fun ds S1 h1=>?_
   unfold wOut at h1;exact h1
 | .clr a, δ, S, Q, h => by
   simp only [wE] at h
   simp only [evE,W_bind]
   refine (wE_W a h).mono fun x S1 h1=>?_
   obtain ⟨h2,h3⟩:=wIsL_of h1
   rw [if_pos h2]
   cases x with
   |ref l=>exact wWr_W h3
   |_=>exact h3.elim
 | .ix a b, δ, S, Q, h => by
   simp only [wE] at h
   simp only [evE,W_bind]
   refine (wE_W a h).mono fun x S1 h1=>(wE_W b h1).mono fun y S2 h2=>?_
   obtain ⟨ds,e,h3⟩:=wSeq_of h2
   rw [e]
   cases y with
   | int i =>
     unfold wOpt at h3
     simp only at h3⊢
     cases e2:atI ds i with
     |none=>rw [e2] at h3;exact h3.elim
     |some d=>rw [e2] at h3;exact h3
   |_=>exact h3.elim
 | .call f j es, δ, S, Q, h => by
   simp only [wE] at h
   simp only [evE,W_bind]
   refine (wEs_W es h).mono fun ds S1 h1=>?_
   unfold wOut at h1;exact h1
 | .bi b es, δ, S, Q, h => by
   simp only [wE] at h
   simp only [evE,W_bind]
   exact (wEs_W es h).mono fun ds S1 h1=>wBi_W h1
 | .mt m o es, δ, S, Q, h => by
   simp only [wE] at h
   simp only [evE,W_bind]
   refine (wE_W o h).mono fun x S1 h1=>?_
   obtain ⟨c,h2⟩:=wIsL_of h1
   rw [if_pos c,W_bind]
   exact (wEs_W es h2).mono fun ds S2 h3=>wMt_W h3
 | .mkL l, δ, S, Q, h => by
   simp only [wE] at h
   simp only [evE,W_bind]
   exact (wL_W l h).mono fun ds S1 h1=>wLay_W h1
 | .all l, δ, S, Q, h => by
   simp only [wE] at h
   simp only [evE,W_bind]
   refine (wL_W l h).mono fun r S1 h1=>?_
   unfold wOpt at h1
   cases e:allD r.1 with
   |none=>rw [e] at h1;exact h1.elim
   |some d=>rw [e] at h1;exact h1
theorem wEs_W:∀(es:CEs) {δ:Ev} {S:St} {Q:List D->St->Prop},wEs cf es δ S Q->W (evEs cf es δ S) Q
 |.nil,δ,S,Q,h=>by simp only [wEs] at h;simp only [evEs];exact h
 | .cons e r, δ, S, Q, h => by
   simp only [wEs] at h
   simp only [evEs,W_bind]
   exact (wE_W e h).mono fun d S1 h1=>(wEs_W r h1).mono fun ds S2 h2=>h2
theorem wT_W:∀(e:CE) {δ:Ev} {S:St} {Q:Bool->St->Prop},wT cf e δ S Q->W (evT cf e δ S) Q
 | .cmp op a b, δ, S, Q, h => by
   simp only [wT] at h
   simp only [evT,W_bind]
   exact (wE_W a h).mono fun x S1 h1=>(wE_W b h1).mono fun y S2 h2=>wCmp_W h2
 | .nt a, δ, S, Q, h => by
   simp only [wT] at h
   simp only [evT,W_bind]
   exact (wT_W a h).mono fun k S1 h1=>h1
 | .and a b, δ, S, Q, h => by
   simp only [wT] at h
   simp only [evT,W_bind]
   refine (wT_W a h).mono fun k S1 h1=>?_
   unfold wIf at h1
   cases k with
   |false=>exact h1
   |true=>exact wT_W b h1
 | .or a b, δ, S, Q, h => by
   simp only [wT] at h
   simp only [evT,W_bind]
   refine (wT_W a h).mono fun k S1 h1=>?_
   unfold wIf at h1
   cases k with
   |true=>exact h1
   |false=>exact wT_W b h1
 | .tst e, δ, S, Q, h => by
   simp only [wT] at h
   simp only [evT,W_bind]
   exact (wE_W e h).mono fun x S1 h1=>wTru_W h1
 |.loc i,δ,S,Q,h=>by simp only [wT] at h
 |.con d,δ,S,Q,h=>by simp only [wT] at h
 |.bin op a b,δ,S,Q,h=>by simp only [wT] at h
 |.neg a,δ,S,Q,h=>by simp only [wT] at h
 |.ite c a b,δ,S,Q,h=>by simp only [wT] at h
 |.tup es,δ,S,Q,h=>by simp only [wT] at h
 |.lst es,δ,S,Q,h=>by simp only [wT] at h
 |.dnew,δ,S,Q,h=>by simp only [wT] at h
 |.dnewT,δ,S,Q,h=>by simp only [wT] at h
 |.fld a f,δ,S,Q,h=>by simp only [wT] at h
 |.mk c f x es,δ,S,Q,h=>by simp only [wT] at h
 |.meth m tb o es,δ,S,Q,h=>by simp only [wT] at h
 |.isc cs x a,δ,S,Q,h=>by simp only [wT] at h
 |.callC f x m es,δ,S,Q,h=>by simp only [wT] at h
 |.clr a,δ,S,Q,h=>by simp only [wT] at h
 |.ix a b,δ,S,Q,h=>by simp only [wT] at h
 |.call f j es,δ,S,Q,h=>by simp only [wT] at h
 |.bi b es,δ,S,Q,h=>by simp only [wT] at h
 |.mt m o es,δ,S,Q,h=>by simp only [wT] at h
 |.mkL l,δ,S,Q,h=>by simp only [wT] at h
 |.all l,δ,S,Q,h=>by simp only [wT] at h
theorem wL_W:∀(l:CL) {δ:Ev} {S:St} {Q:List D × List Nat->St->Prop},wL cf l δ S Q->W (evL cf l δ S) Q
 | .val e, δ, S, Q, h => by
   simp only [wL] at h
   simp only [evL,W_bind]
   refine (wE_W e h).mono fun x S1 h1=>?_
   obtain ⟨ds,e,h2⟩:=wSeq_of h1
   rw [e];exact h2
 | .rng1 a, δ, S, Q, h => by
   simp only [wL] at h
   simp only [evL,W_bind]
   refine (wE_W a h).mono fun x S1 h1=>?_
   cases x with
   | int j =>
     unfold wNeed at h1
     simp only
     rw [if_pos h1.1];exact h1.2
   |_=>exact h1.elim
 | .rng2 a b, δ, S, Q, h => by
   simp only [wL] at h
   simp only [evL,W_bind]
   refine (wE_W a h).mono fun x S1 h1=>(wE_W b h1).mono fun y S2 h2=>?_
   cases x with
   | int i =>
     cases y with
     | int j =>
       unfold wNeed at h2
       simp only
       rw [if_pos h2.1];exact h2.2
     |_=>exact h2.elim
   |_=>exact h2.elim
 | .zip a b, δ, S, Q, h => by
   simp only [wL] at h
   simp only [evL,W_bind]
   refine (wE_W a h).mono fun x S1 h1=>(wE_W b h1).mono fun y S2 h2=>?_
   unfold wOpt at h2
   cases e:zipOf S2 x y with
   |none=>rw [e] at h2;exact h2.elim
   |some r=>rw [e] at h2;exact h2
 | .comp n js g it c e, δ, S, Q, h => by
   simp only [wL] at h
   simp only [evL,W_bind]
   refine (wL_W it h).mono fun r S1 h1=>(wLock_W h1).mono fun ds S3 h3=>?_
   unfold wNeed at h3
   rw [if_pos h3.1];exact h3.2
end
theorem wS_W:∀(s:CS) {δ:Ev} {S:St} {Q:Fl->St->Prop},wS cf s δ S Q->W (exS cf s δ S) Q
 |.nil,δ,S,Q,h=>by simp only [wS] at h;simp only [exS];exact h
 | .asg i e r, δ, S, Q, h => by
   simp only [wS] at h
   simp only [exS,W_bind]
   exact (wE_W e h).mono fun x S1 h1=>wS_W r h1
 | .asgT g e r, δ, S, Q, h => by
   simp only [wS] at h
   simp only [exS,W_bind]
   refine (wE_W e h).mono fun x S1 h1=>?_
   unfold wOpt at h1
   cases e:asgG g x δ with
   |none=>rw [e] at h1;exact h1.elim
   |some d=>rw [e] at h1;exact wS_W r h1
 | .setF a f e r, δ, S, Q, h => by
   simp only [wS] at h
   simp only [exS,W_bind]
   refine (wE_W e h).mono fun v S1 h1=>(wE_W a h1).mono fun x S2 h2=>?_
   unfold wOpt at h2
   cases e:setFld S2 x f v with
   |none=>rw [e] at h2;exact h2.elim
   |some S3=>rw [e] at h2;exact wS_W r h2
 | .ifS c t u r, δ, S, Q, h => by
   simp only [wS] at h
   simp only [exS,W_bind]
   refine (wT_W c h).mono fun k S1 h1=>?_
   unfold wIf at h1
   have nx:∀(f:Fl) (S2:St),(match f with|.nx δ'=>wS cf r δ' S2 Q|.rt d=>Q (.rt d) S2)->W (match f with|.nx δ'=>exS cf r δ' S2|.rt d=>.ok (.rt d) S2) Q:=fun f S2 q=>by
    cases f with
    |nx δ'=>exact wS_W r q
    |rt d=>exact q
   cases k with
   |true=>exact (wS_W t h1).mono nx
   |false=>exact (wS_W u h1).mono nx
 | .forS g l b r, δ, S, Q, h => by
   simp only [wS] at h
   simp only [exS,W_bind]
   refine (wL_W l h).mono fun q S1 h1=>(wLock_W h1).mono fun f S2 q=>?_
   cases f with
   |nx δ'=>exact wS_W r q
   |rt d=>exact q
 |.retN _,δ,S,Q,h=>by simp only [wS] at h;simp only [exS];exact h
 | .ret e r, δ, S, Q, h => by
   simp only [wS] at h
   simp only [exS,W_bind]
   exact (wE_W e h).mono fun x S1 h1=>h1
 | .expr e r, δ, S, Q, h => by
   simp only [wS] at h
   simp only [exS,W_bind]
   exact (wE_W e h).mono fun x S1 h1=>wS_W r h1
@[irreducible] noncomputable def wFin (S:St) (r:Fl) (T:St) (Q:D->St->Prop):Prop:=W (fin S r T) Q
theorem app_W {P:List Fn} {F:Fn} {f n:Nat} {ds:List D} {S:St} {Q:D->St->Prop} (h:P[f]?=some F) (hl:ds.length=F.np) (w:wS (callF P n) F.body (startE F ds) S.enter fun r T=>wFin S r T Q) (hp:F.prim=none:=by rfl) :
  W (app (callF P (n+1)) f ds S) Q:=by
 rw [app_eq h hl hp,W_bind]
 refine (wS_W _ w).mono fun r T q=>?_
 unfold wFin at q;exact q
theorem app_ok {P:List Fn} {F:Fn} {f n:Nat} {ds:List D} {S S':St} {d:D} (h:P[f]?=some F) (hl:ds.length=F.np) (w:wS (callF P n) F.body (startE F ds) S.enter fun r T=>wFin S r T fun a T'=>a=d/\T'=S') (hp:F.prim=none:=by rfl) :
 app (callF P (n+1)) f ds S=.ok d S':=W.eq (app_W h hl w hp)
theorem wFin_flat {S T:St} {d:D} {Q:D->St->Prop} (h:flat S.len d=true) (q:Q d S):wFin S (.rt d) T Q:=by
 unfold wFin;rw [fin_rt,leave_flat S d T h];exact q
theorem wFin_list {S T:St} {l:Nat} {ds:List D} {Q:D->St->Prop} (hl:S.len<=l) (hg:T.get l=some (.lst ds)) (h:flats S.len ds=true) (q:Q (.ref S.len) (S.push (.lst ds))):wFin S (.rt (.ref l)) T Q:=by
 have h0:flat S.len (.ref l)=false:=by simp [flat];omega
 unfold wFin
 rw [fin_rt]
 unfold leave
 simp only [h0,hg,h,if_true,Bool.false_eq_true,if_false]
 exact q
theorem wFin_new {S:St} {nw:List MO} {lk:List Nat} {i:Nat} {ds:List D} {Q:D->St->Prop} (hg:nw[i]?=some (.lst ds)) (h:flats S.len ds=true) (q:Q (.ref S.len) (S.push (.lst ds))) :
  wFin S (.rt (.ref ((S.frz++S.new).length+i))) (St.mk (S.frz++S.new) nw lk) Q:=
 wFin_list (by rw [len_def];omega) ((get_new _ nw lk i).trans hg) h q
end
end R
end
section
namespace R
open PySem (Str PyData Operator CmpOp)
structure Frm (S S':St):Prop where
 frz:S'.frz=S.frz
 lk:S'.lk=S.lk
 len:S.new.length<=S'.new.length
 same:∀l∈S.lk,l<S.len->S'.get l=S.get l
theorem Frm.refl (S:St):Frm S S:=⟨rfl,rfl,Nat.le_refl _,fun _ _ _=>rfl⟩
theorem Frm.lens {S S':St} (h:Frm S S'):S.len<=S'.len:=by unfold St.len;rw [h.frz];have:=h.len;omega
theorem Frm.trans {S S1 S2:St} (a:Frm S S1) (b:Frm S1 S2):Frm S S2:=
 ⟨b.frz.trans a.frz,b.lk.trans a.lk,Nat.le_trans a.len b.len,fun l hl h=>(b.same l (by rw [a.lk];exact hl) (Nat.lt_of_lt_of_le h a.lens)).trans (a.same l hl h)⟩
theorem Frm.push (S:St) (o:MO):Frm S (S.push o):=by
 refine ⟨rfl,rfl,by simp [St.push],fun l _ h=>?_⟩
 unfold St.len at h
 unfold St.get St.push
 simp only
 split
 · rfl
 · rw [List.getElem?_append_left (by omega)]
theorem Frm.put {S S':St} {l:Nat} {o:MO} (h:S.put l o=some S'):Frm S S':=by
 unfold St.put at h
 split at h
 · cases h
 · split at h
   · cases h
   · rename_i h1 h2
     injection h with h
     subst h
     refine ⟨rfl,rfl,by simp,fun m hm hl=>?_⟩
     have hne:m≠l:=fun e=>by subst e;exact h2 (by simpa using hm)
     unfold St.get
     simp only
     split
     · rfl
     · rw [List.getElem?_set_ne (by omega)]
noncomputable abbrev WF {α:Type} (S:St) (o:Out α) (Q:α->St->Prop):Prop:=W o fun a S'=>Q a S'/\Frm S S'
theorem WF.bind {α β:Type} {S:St} {o:Out α} {f:α->St->Out β} {Q:β->St->Prop} (h:WF S o fun a S1=>W (f a S1) Q) (hf:∀a S1,W (f a S1) Q->WF S1 (f a S1) Q):WF S (o.bind f) Q:=by
 rw [WF,W_bind]
 exact h.mono fun a S1 ⟨q,f1⟩=>(hf a S1 q).mono fun b S2 ⟨q2,f2⟩=>⟨q2,f1.trans f2⟩
theorem lay_F {S:St} {ds:List D} {Q:D->St->Prop} (h:W (lay S ds) Q):WF S (lay S ds) Q:=by
 unfold lay at h⊢
 split
 · rename_i c;rw [if_pos c] at h;exact ⟨h,Frm.push _ _⟩
 · rename_i c;rw [if_neg c] at h;exact h.elim
theorem wr_F {S:St} {l:Nat} {ds:List D} {d:D} {Q:D->St->Prop} (h:W (wr S l ds d) Q):WF S (wr S l ds d) Q:=by
 unfold wr at h⊢
 split
 · rename_i c
   rw [if_pos c] at h
   cases e:S.put l (.lst ds) with
   |none=>rw [e] at h;exact h.elim
   |some S'=>rw [e] at h;exact ⟨h,Frm.put e⟩
 · rename_i c;rw [if_neg c] at h;exact h.elim
theorem lift_F {α:Type} {S:St} {o:Option α} {Q:α->St->Prop} (h:W (lift S o) Q):WF S (lift S o) Q:=by
 cases o with
 |none=>exact h.elim
 |some a=>exact ⟨h,Frm.refl S⟩
theorem binD_F {S:St} {op:Operator} {x y:D} {Q:D->St->Prop} (h:W (binD S op x y) Q):WF S (binD S op x y) Q:=by
 unfold binD at h⊢
 split
 · unfold binI at h⊢
   dsimp only at h
   cases op<;>dsimp only at h⊢<;> first
    |exact ⟨h,Frm.refl S⟩
    |exact h.elim
    | (split at h
       · rename_i c;rw [if_pos c];exact ⟨h,Frm.refl S⟩
       · exact h.elim)
 · dsimp only at h
   cases op<;>dsimp only at h⊢<;> first
    |exact False.elim h
    | (split at h
       · rename_i c;rw [if_pos c];exact ⟨h,Frm.refl S⟩
       · exact False.elim h)
 · dsimp only at h
   split at h
   · exact lay_F h
   · exact False.elim h
 · rename_i h1 h2 h3
   split at h
   · exact (h1 _ _ rfl rfl).elim
   · exact (h2 _ _ rfl rfl).elim
   · exact (h3 _ _ rfl rfl).elim
   · exact False.elim h
theorem bi_F {S:St} {b:Bi} {ds:List D} {Q:D->St->Prop} (h:W (bi S b ds) Q):WF S (bi S b ds) Q:=by
 unfold bi at h⊢
 split
 · rename_i x
   dsimp only at h
   cases x with
   |tup ds=>exact ⟨h,Frm.refl S⟩
   |fix ds=>exact ⟨h,Frm.refl S⟩
   | ref l =>
     dsimp only at h⊢
     cases e:S.get l with
     |none=>rw [e] at h;exact False.elim h
     |some o=>rw [e] at h;cases o<;>first|exact ⟨h,Frm.refl S⟩|exact False.elim h
   |_=>exact False.elim h
 · exact ⟨h,Frm.refl S⟩
 · exact ⟨h,Frm.refl S⟩
 · exact ⟨h,Frm.refl S⟩
 · dsimp only at h
   split at h
   · exact ⟨h,Frm.refl S⟩
   · exact False.elim h
 · exact False.elim (by simpa using h)
theorem mt_F {S:St} {m:Mt} {x:D} {ds:List D} {Q:D->St->Prop} (h:W (mt S m x ds) Q):WF S (mt S m x ds) Q:=by
 unfold mt at h⊢
 split
 · dsimp only at h
   split at h
   · exact wr_F h
   · exact False.elim h
 · dsimp only at h
   split at h
   · split at h
     · rename_i c
       rw [if_pos c]
       split at h
       · exact wr_F h
       · exact False.elim h
     · exact False.elim h
   · exact False.elim h
 · dsimp only at h
   split at h
   · split at h
     · exact ⟨h,Frm.refl _⟩
     · exact False.elim h
   · exact False.elim h
 · exact False.elim (by simpa using h)
theorem Frm.keep (S T:St):Frm S ⟨S.frz,S.new++T.new,S.lk⟩:=by
 refine ⟨rfl,rfl,by simp,fun l _ h=>?_⟩
 unfold St.len at h
 unfold St.get
 simp only
 split
 · rfl
 · rw [List.getElem?_append_left (by omega)]
theorem setFld_F {S S':St} {x:D} {f:Str} {v:D} (h:setFld S x f v=some S'):Frm S S':=by
 unfold setFld at h
 split at h
 · split at h
   · split at h
     · exact Frm.put h
     · cases h
   · cases h
 · cases h
theorem leave_F {S T:St} {d:D} {Q:D->St->Prop} (h:W (leave S d T) Q):WF S (leave S d T) Q:=by
 unfold leave at h⊢
 split
 · rename_i c;rw [if_pos c] at h;exact ⟨h,Frm.refl S⟩
 · rename_i c
   rw [if_neg c] at h
   dsimp only at h⊢
   split at h
   · split at h
     · split at h
       · rename_i c;rw [if_pos c];exact ⟨h,Frm.push _ _⟩
       · rename_i c;rw [if_neg c];exact ⟨h,Frm.keep _ _⟩
     · split at h
       · rename_i c;rw [if_pos c];exact ⟨h,Frm.push _ _⟩
       · rename_i c;rw [if_neg c];exact ⟨h,Frm.keep _ _⟩
     · split at h
       · rename_i c;rw [if_pos c];exact ⟨h,Frm.push _ _⟩
       · rename_i c;rw [if_neg c];exact ⟨h,Frm.keep _ _⟩
     · exact ⟨h,Frm.keep _ _⟩
   · exact ⟨h,Frm.keep _ _⟩
theorem app_F {cf:CF} {f:Nat} {ds:List D} {S:St} {Q:D->St->Prop} (h:W (app cf f ds S) Q):WF S (app cf f ds S) Q:=by
 unfold app at h⊢
 cases e:cf f ds S.enter with
 |ok d T=>rw [e] at h;exact leave_F h
 |err d T=>rw [e] at h;exact h.elim
 |bad=>rw [e] at h;exact h.elim
theorem Frm.unlock {S T:St} {ls:List Nat} (h:Frm {S with lk:=ls++S.lk} T):Frm S {T with lk:=S.lk}:=
 ⟨h.frz,rfl,h.len,fun l hl hn=>h.same l (List.mem_append_right _ hl) hn⟩
theorem locked_F {α:Type} {ls:List Nat} {S:St} {f:St->Out α} {Q:α->St->Prop} (h:W (locked ls S f) Q) (hf:∀Q',W (f {S with lk:=ls++S.lk}) Q'->WF {S with lk:=ls++S.lk} (f {S with lk:=ls++S.lk}) Q'):WF S (locked ls S f) Q:=by
 unfold locked at h⊢
 rw [W_bind] at h
 rw [WF,W_bind]
 exact (hf _ h).mono fun a T ⟨q,fr⟩=>⟨q,fr.unlock⟩
theorem turnsC_F {g:List Nat} {c:Ev->St->Out Bool} {e:Ev->St->Out D} (hc:∀δ S Q,W (c δ S) Q->WF S (c δ S) Q) (he:∀δ S Q,W (e δ S) Q->WF S (e δ S) Q) :
  ∀(xs:List D) (δ:Ev) (S:St) (Q:List D->St->Prop),W (turnsC g c e xs δ S) Q->WF S (turnsC g c e xs δ S) Q
 | [],δ,S,Q,h=>⟨h,Frm.refl S⟩
 | x :: xs, δ, S, Q, h => by
   simp only [turnsC] at h⊢
   cases ea:asgG g x δ with
   |none=>rw [ea] at h;exact h.elim
   | some δ' =>
     rw [ea] at h
     dsimp only at h⊢
     rw [W_bind] at h
     refine WF.bind (hc _ _ _ h) fun b S1 h1=>?_
     cases b with
     | false =>
       simp only [Bool.false_eq_true,if_false] at h1⊢
       exact turnsC_F hc he xs δ' S1 Q h1
     | true =>
       simp only [if_true] at h1⊢
       rw [W_bind] at h1
       refine WF.bind (he _ _ _ h1) fun d S2 h2=>?_
       rw [W_bind] at h2
       exact WF.bind (turnsC_F hc he xs δ' S2 _ h2) fun ds S3 h3=>⟨h3,Frm.refl _⟩
theorem turnsF_F {g:List Nat} {b:Ev->St->Out Fl} (hb:∀δ S Q,W (b δ S) Q->WF S (b δ S) Q) :
  ∀(xs:List D) (δ:Ev) (S:St) (Q:Fl->St->Prop),W (turnsF g b xs δ S) Q->WF S (turnsF g b xs δ S) Q
 | [],δ,S,Q,h=>⟨h,Frm.refl S⟩
 | x :: xs, δ, S, Q, h => by
   simp only [turnsF] at h⊢
   cases ea:asgG g x δ with
   |none=>rw [ea] at h;exact h.elim
   | some δ' =>
     rw [ea] at h
     dsimp only at h⊢
     rw [W_bind] at h
     refine WF.bind (hb _ _ _ h) fun f S1 h1=>?_
     cases f with
     |nx δ2=>exact turnsF_F hb xs δ2 S1 Q h1
     |rt d=>exact ⟨h1,Frm.refl _⟩
noncomputable def CFok (cf:CF):Prop:=∀f ds S d T,cf f ds S=.ok d T->Frm S T
theorem appW_F {cf:CF} (hcf:CFok cf) {f:Nat} {ds:List D} {S:St} {Q:D->St->Prop} (h:W (appW cf f ds S) Q):WF S (appW cf f ds S) Q:=by
 unfold appW at h⊢
 cases e:cf f ds S with
 |ok d T=>rw [e] at h;exact ⟨h,hcf f ds S d T e⟩
 |err d T=>rw [e] at h;exact h.elim
 |bad=>rw [e] at h;exact h.elim
section
variable {cf:CF} (hcf:CFok cf)
include hcf
mutual
theorem evE_F:∀(e:CE) (δ:Ev) (S:St) (Q:D->St->Prop),W (evE cf e δ S) Q->WF S (evE cf e δ S) Q
 |.loc i,δ,S,Q,h=>by simp only [evE] at h⊢;exact lift_F h
 |.con d,δ,S,Q,h=>by simp only [evE] at h⊢;exact ⟨h,Frm.refl S⟩
 |.tst _,δ,S,Q,h=>by simp only [evE] at h;exact h.elim
 | .bin op a b, δ, S, Q, h => by
   simp only [evE] at h⊢
   rw [W_bind] at h
   refine WF.bind (evE_F a δ S _ h) fun x S1 h1=>?_
   rw [W_bind] at h1
   exact WF.bind (evE_F b δ S1 _ h1) fun y S2 h2=>binD_F h2
 | .neg a, δ, S, Q, h => by
   simp only [evE] at h⊢
   rw [W_bind] at h
   refine WF.bind (evE_F a δ S _ h) fun x S1 h1=>?_
   cases x<;>first|exact ⟨h1,Frm.refl _⟩|exact h1.elim
 | .nt a, δ, S, Q, h => by
   simp only [evE] at h⊢
   rw [W_bind] at h
   refine WF.bind (evE_F a δ S _ h) fun x S1 h1=>?_
   cases x<;>first|exact ⟨h1,Frm.refl _⟩|exact h1.elim
 | .cmp op a b, δ, S, Q, h => by
   simp only [evE] at h⊢
   rw [W_bind] at h
   refine WF.bind (evE_F a δ S _ h) fun x S1 h1=>?_
   rw [W_bind] at h1
   refine WF.bind (evE_F b δ S1 _ h1) fun y S2 h2=>?_
   rw [W_bind] at h2
   exact WF.bind (lift_F h2) fun k S3 h3=>⟨h3,Frm.refl _⟩
 | .and a b, δ, S, Q, h => by
   simp only [evE] at h⊢
   rw [W_bind] at h
   refine WF.bind (evE_F a δ S _ h) fun x S1 h1=>?_
   cases x with
   | bl k =>
     cases k with
     |false=>exact ⟨h1,Frm.refl _⟩
     |true=>exact evE_F b δ S1 Q h1
   |_=>exact h1.elim
 | .or a b, δ, S, Q, h => by
   simp only [evE] at h⊢
   rw [W_bind] at h
   refine WF.bind (evE_F a δ S _ h) fun x S1 h1=>?_
   cases x with
   | bl k =>
     cases k with
     |true=>exact ⟨h1,Frm.refl _⟩
     |false=>exact evE_F b δ S1 Q h1
   |_=>exact h1.elim
 | .ite c a b, δ, S, Q, h => by
   simp only [evE] at h⊢
   rw [W_bind] at h
   refine WF.bind (evT_F c δ S _ h) fun k S1 h1=>?_
   cases k with
   |true=>exact evE_F a δ S1 Q h1
   |false=>exact evE_F b δ S1 Q h1
 | .tup es, δ, S, Q, h => by
   simp only [evE] at h⊢
   rw [W_bind] at h
   refine WF.bind (evEs_F es δ S _ h) fun ds S1 h1=>?_
   split at h1
   · rename_i c;rw [if_pos c];exact ⟨h1,Frm.refl _⟩
   · exact h1.elim
 | .lst es, δ, S, Q, h => by
   simp only [evE] at h⊢
   rw [W_bind] at h
   exact WF.bind (evEs_F es δ S _ h) fun ds S1 h1=>lay_F h1
 |.dnew,δ,S,Q,h=>by simp only [evE] at h⊢;exact ⟨h,Frm.push _ _⟩
 |.dnewT,δ,S,Q,h=>by simp only [evE] at h⊢;exact ⟨h,Frm.push _ _⟩
 | .fld a f, δ, S, Q, h => by
   simp only [evE] at h⊢
   rw [W_bind] at h
   exact WF.bind (evE_F a δ S _ h) fun x S1 h1=>lift_F h1
 | .mk c f _ es, δ, S, Q, h => by
   simp only [evE] at h⊢
   rw [W_bind] at h
   refine WF.bind (evEs_F es δ S _ h) fun ds S1 h1=>?_
   rw [W_bind] at h1
   have h2:=(appW_F hcf h1:WF (S1.push (.ins c [])) _ _)
   refine WF.bind (h2.mono fun d T q=>⟨q.1,(Frm.push S1 _).trans q.2⟩) fun d S2 h3=>?_
   split at h3
   · rename_i c;rw [if_pos c];exact ⟨h3,Frm.refl _⟩
   · exact h3.elim
 | .meth m tb o es, δ, S, Q, h => by
   simp only [evE] at h⊢
   rw [W_bind] at h
   refine WF.bind (evE_F o δ S _ h) fun x S1 h1=>?_
   rw [W_bind] at h1
   refine WF.bind (lift_F h1) fun p S2 h2=>?_
   rw [W_bind] at h2
   refine WF.bind (lift_F h2) fun f S3 h3=>?_
   split at h3
   · rename_i c
     rw [if_pos c]
     rw [W_bind] at h3
     exact WF.bind (evEs_F es δ S3 _ h3) fun ds S4 h4=>appW_F hcf h4
   · exact h3.elim
 | .isc cs _ a, δ, S, Q, h => by
   simp only [evE] at h⊢
   rw [W_bind] at h
   refine WF.bind (evE_F a δ S _ h) fun x S1 h1=>?_
   rw [W_bind] at h1
   exact WF.bind (lift_F h1) fun p S2 h2=>⟨h2,Frm.refl _⟩
 | .callC f _ _ es, δ, S, Q, h => by
   simp only [evE] at h⊢
   rw [W_bind] at h
   exact WF.bind (evEs_F es δ S _ h) fun ds S1 h1=>appW_F hcf h1
 | .clr a, δ, S, Q, h => by
   simp only [evE] at h⊢
   rw [W_bind] at h
   refine WF.bind (evE_F a δ S _ h) fun x S1 h1=>?_
   split at h1
   · rename_i c
     rw [if_pos c]
     cases x with
     |ref l=>exact wr_F h1
     |_=>exact h1.elim
   · exact h1.elim
 | .ix a b, δ, S, Q, h => by
   simp only [evE] at h⊢
   rw [W_bind] at h
   refine WF.bind (evE_F a δ S _ h) fun x S1 h1=>?_
   rw [W_bind] at h1
   refine WF.bind (evE_F b δ S1 _ h1) fun y S2 h2=>?_
   split at h2
   · exact lift_F h2
   · exact h2.elim
 | .call f j es, δ, S, Q, h => by
   simp only [evE] at h⊢
   rw [W_bind] at h
   exact WF.bind (evEs_F es δ S _ h) fun ds S1 h1=>app_F h1
 | .bi b es, δ, S, Q, h => by
   simp only [evE] at h⊢
   rw [W_bind] at h
   exact WF.bind (evEs_F es δ S _ h) fun ds S1 h1=>bi_F h1
 | .mt m o es, δ, S, Q, h => by
   simp only [evE] at h⊢
   rw [W_bind] at h
   refine WF.bind (evE_F o δ S _ h) fun x S1 h1=>?_
   split at h1
   · rename_i c
     rw [if_pos c]
     rw [W_bind] at h1
     exact WF.bind (evEs_F es δ S1 _ h1) fun ds S2 h2=>mt_F h2
   · exact h1.elim
 | .mkL l, δ, S, Q, h => by
   simp only [evE] at h⊢
   rw [W_bind] at h
   exact WF.bind (evL_F l δ S _ h) fun r S1 h1=>lay_F h1
 | .all l, δ, S, Q, h => by
   simp only [evE] at h⊢
   rw [W_bind] at h
   refine WF.bind (evL_F l δ S _ h) fun r S1 h1=>?_
   rw [W_bind] at h1
   exact WF.bind (lift_F h1) fun k S3 h3=>⟨h3,Frm.refl _⟩
theorem evEs_F:∀(es:CEs) (δ:Ev) (S:St) (Q:List D->St->Prop),W (evEs cf es δ S) Q->WF S (evEs cf es δ S) Q
 |.nil,δ,S,Q,h=>by simp only [evEs] at h⊢;exact ⟨h,Frm.refl S⟩
 | .cons e r, δ, S, Q, h => by
   simp only [evEs] at h⊢
   rw [W_bind] at h
   refine WF.bind (evE_F e δ S _ h) fun x S1 h1=>?_
   rw [W_bind] at h1
   exact WF.bind (evEs_F r δ S1 _ h1) fun k S3 h3=>⟨h3,Frm.refl _⟩
theorem evT_F:∀(e:CE) (δ:Ev) (S:St) (Q:Bool->St->Prop),W (evT cf e δ S) Q->WF S (evT cf e δ S) Q
 | .cmp op a b, δ, S, Q, h => by
   simp only [evT] at h⊢
   rw [W_bind] at h
   refine WF.bind (evE_F a δ S _ h) fun x S1 h1=>?_
   rw [W_bind] at h1
   exact WF.bind (evE_F b δ S1 _ h1) fun y S2 h2=>lift_F h2
 | .nt a, δ, S, Q, h => by
   simp only [evT] at h⊢
   rw [W_bind] at h
   exact WF.bind (evT_F a δ S _ h) fun k S3 h3=>⟨h3,Frm.refl _⟩
 | .and a b, δ, S, Q, h => by
   simp only [evT] at h⊢
   rw [W_bind] at h
   refine WF.bind (evT_F a δ S _ h) fun k S1 h1=>?_
   cases k with
   |false=>exact ⟨h1,Frm.refl _⟩
   |true=>exact evT_F b δ S1 Q h1
 | .or a b, δ, S, Q, h => by
   simp only [evT] at h⊢
   rw [W_bind] at h
   refine WF.bind (evT_F a δ S _ h) fun k S1 h1=>?_
   cases k with
   |true=>exact ⟨h1,Frm.refl _⟩
   |false=>exact evT_F b δ S1 Q h1
 | .tst e, δ, S, Q, h => by
   simp only [evT] at h⊢
   rw [W_bind] at h
   exact WF.bind (evE_F e δ S _ h) fun k S3 h3=>lift_F h3
 |.loc i,δ,S,Q,h=>by simp only [evT] at h;exact h.elim
 |.con d,δ,S,Q,h=>by simp only [evT] at h;exact h.elim
 |.bin op a b,δ,S,Q,h=>by simp only [evT] at h;exact h.elim
 |.neg a,δ,S,Q,h=>by simp only [evT] at h;exact h.elim
 |.ite c a b,δ,S,Q,h=>by simp only [evT] at h;exact h.elim
 |.tup es,δ,S,Q,h=>by simp only [evT] at h;exact h.elim
 |.lst es,δ,S,Q,h=>by simp only [evT] at h;exact h.elim
 |.dnew,δ,S,Q,h=>by simp only [evT] at h;exact h.elim
 |.dnewT,δ,S,Q,h=>by simp only [evT] at h;exact h.elim
 |.fld a f,δ,S,Q,h=>by simp only [evT] at h;exact h.elim
 |.mk c f x es,δ,S,Q,h=>by simp only [evT] at h;exact h.elim
 |.meth m tb o es,δ,S,Q,h=>by simp only [evT] at h;exact h.elim
 |.isc cs x a,δ,S,Q,h=>by simp only [evT] at h;exact h.elim
 |.callC f x m es,δ,S,Q,h=>by simp only [evT] at h;exact h.elim
 |.clr a,δ,S,Q,h=>by simp only [evT] at h;exact h.elim
 |.ix a b,δ,S,Q,h=>by simp only [evT] at h;exact h.elim
 |.call f j es,δ,S,Q,h=>by simp only [evT] at h;exact h.elim
 |.bi b es,δ,S,Q,h=>by simp only [evT] at h;exact h.elim
 |.mt m o es,δ,S,Q,h=>by simp only [evT] at h;exact h.elim
 |.mkL l,δ,S,Q,h=>by simp only [evT] at h;exact h.elim
 |.all l,δ,S,Q,h=>by simp only [evT] at h;exact h.elim
theorem evL_F:∀(l:CL) (δ:Ev) (S:St) (Q:List D × List Nat->St->Prop),W (evL cf l δ S) Q->WF S (evL cf l δ S) Q
 | .val e, δ, S, Q, h => by
   simp only [evL] at h⊢
   rw [W_bind] at h
   refine WF.bind (evE_F e δ S _ h) fun x S1 h1=>?_
   rw [W_bind] at h1
   exact WF.bind (lift_F h1) fun k S3 h3=>⟨h3,Frm.refl _⟩
 | .rng1 a, δ, S, Q, h => by
   simp only [evL] at h⊢
   rw [W_bind] at h
   refine WF.bind (evE_F a δ S _ h) fun x S1 h1=>?_
   cases x with
   | int j =>
     dsimp only at h1⊢
     split at h1
     · rename_i c;rw [if_pos c];exact ⟨h1,Frm.refl _⟩
     · exact h1.elim
   |_=>exact h1.elim
 | .rng2 a b, δ, S, Q, h => by
   simp only [evL] at h⊢
   rw [W_bind] at h
   refine WF.bind (evE_F a δ S _ h) fun x S1 h1=>?_
   rw [W_bind] at h1
   refine WF.bind (evE_F b δ S1 _ h1) fun y S2 h2=>?_
   split at h2
   · split at h2
     · rename_i c;rw [if_pos c];exact ⟨h2,Frm.refl _⟩
     · exact h2.elim
   · exact h2.elim
 | .zip a b, δ, S, Q, h => by
   simp only [evL] at h⊢
   rw [W_bind] at h
   refine WF.bind (evE_F a δ S _ h) fun x S1 h1=>?_
   rw [W_bind] at h1
   exact WF.bind (evE_F b δ S1 _ h1) fun y S2 h2=>lift_F h2
 | .comp n js g it c e, δ, S, Q, h => by
   simp only [evL] at h⊢
   rw [W_bind] at h
   refine WF.bind (evL_F it δ S _ h) fun r S1 h1=>?_
   rw [W_bind] at h1
   exact WF.bind (locked_F h1 fun Q' h2=>turnsC_F (fun δ S Q=>evT_F c δ S Q) (fun δ S Q=>evE_F e δ S Q) _ _ _ _ h2) fun k S3 h3=>by
    split at h3
    · rename_i c;rw [if_pos c];exact ⟨h3,Frm.refl _⟩
    · exact h3.elim
end
theorem exS_F:∀(s:CS) (δ:Ev) (S:St) (Q:Fl->St->Prop),W (exS cf s δ S) Q->WF S (exS cf s δ S) Q
 |.nil,δ,S,Q,h=>by simp only [exS] at h⊢;exact ⟨h,Frm.refl S⟩
 | .asg i e r, δ, S, Q, h => by
   simp only [exS] at h⊢
   rw [W_bind] at h
   exact WF.bind (evE_F hcf e δ S _ h) fun x S1 h1=>exS_F r _ S1 Q h1
 | .asgT g e r, δ, S, Q, h => by
   simp only [exS] at h⊢
   rw [W_bind] at h
   refine WF.bind (evE_F hcf e δ S _ h) fun x S1 h1=>?_
   rw [W_bind] at h1
   exact WF.bind (lift_F h1) fun δ' S2 h2=>exS_F r _ S2 Q h2
 | .setF a f e r, δ, S, Q, h => by
   simp only [exS] at h⊢
   rw [W_bind] at h
   refine WF.bind (evE_F hcf e δ S _ h) fun v S1 h1=>?_
   rw [W_bind] at h1
   refine WF.bind (evE_F hcf a δ S1 _ h1) fun x S2 h2=>?_
   cases ed:setFld S2 x f v with
   |none=>rw [ed] at h2;exact h2.elim
   | some S3 =>
     rw [ed] at h2
     exact (exS_F r δ S3 Q h2).mono fun a S' q=>⟨q.1,(setFld_F ed).trans q.2⟩
 | .ifS c t u r, δ, S, Q, h => by
   simp only [exS] at h⊢
   rw [W_bind] at h
   refine WF.bind (evT_F hcf c δ S _ h) fun k S1 h1=>?_
   rw [W_bind] at h1
   refine WF.bind (Q:=Q) (S:=S1) ?_ fun f S2 h2=>?_
   · cases k with
     |true=>exact exS_F t δ S1 _ h1
     |false=>exact exS_F u δ S1 _ h1
   · cases f with
     |nx δ'=>exact exS_F r _ S2 Q h2
     |rt d=>exact ⟨h2,Frm.refl _⟩
 | .forS g l b r, δ, S, Q, h => by
   simp only [exS] at h⊢
   rw [W_bind] at h
   refine WF.bind (evL_F hcf l δ S _ h) fun q S1 h1=>?_
   rw [W_bind] at h1
   refine WF.bind (locked_F h1 fun Q' h2=>turnsF_F (fun δ S Q=>exS_F b δ S Q) _ _ _ _ h2) fun f S3 h3=>?_
   cases f with
   |nx δ'=>exact exS_F r _ S3 Q h3
   |rt d=>exact ⟨h3,Frm.refl _⟩
 |.retN _,δ,S,Q,h=>by simp only [exS] at h⊢;exact ⟨h,Frm.refl S⟩
 | .ret e r, δ, S, Q, h => by
   simp only [exS] at h⊢
   rw [W_bind] at h
   exact WF.bind (evE_F hcf e δ S _ h) fun x S1 h1=>⟨h1,Frm.refl _⟩
 | .expr e r, δ, S, Q, h => by
   simp only [exS] at h⊢
   rw [W_bind] at h
   exact WF.bind (evE_F hcf e δ S _ h) fun x S1 h1=>exS_F r _ S1 Q h1
end
end R
end
section
namespace R
open PySem L2
noncomputable def KL (K:PySem.W.Frag) (a:Addr) (xs:List V):Prop:=∃(o:Obj) (its:Array Value) (n:Nat),K.lookup a=some o/\o.cls=.type "list"/\o.dict=none/\o.data=.seq its n/\its.size<=sizeLine/\Vals xs its.toList
noncomputable def FixL (K:PySem.W.Frag) (H:Hp) (a:Addr) (xs:List V):Prop:=(∃o,H a=some (.frz o (.lst xs)))\/KL K a xs
theorem FixL.sq {K:PySem.W.Frag} {H:Hp} {a:Addr} {xs:List V} (h:FixL K H a xs):SqL K H a xs:=h.elim (fun ⟨o,e⟩=>.inl (.inr ⟨o,e⟩)) .inr
class Mks where
 ts:List (Addr × Str)
 cl:List Addr
variable [Mks]
noncomputable def TabIn (H:Hp) (P:Addr) (q:Str):Prop:=∃ps:Array Value,H P=some (.tbl ps)/\TriplesOk ps.toList/\
 ∀(pos:Pos) (v:Value),codeAmong pos ps.toList=some v->∃(c:Addr) (oc:Obj) (vs:Array Value) (t:Tok),v=.ref c/\H c=some (.frz oc (.own 0))/\oc.data=.fields vs/\vs[1]?=some (.str q t)
theorem TabIn.up {H H':Hp} {P:Addr} {q:Str} (t:TabIn H P q) (e:H' P=H P) (f:∀b o u,H b=some (.frz o u)->H' b=some (.frz o u)):TabIn H' P q:=by
 obtain ⟨ps,h1,h2,h3⟩:=t
 refine ⟨ps,by rw [e];exact h1,h2,fun pos v hv=>?_⟩
 obtain ⟨c,oc,vs,t,a1,a2,a3⟩:=h3 pos v hv
 exact ⟨c,oc,vs,t,a1,f _ _ _ a2,a3⟩
noncomputable def TB (H:Hp):Prop:=∀p∈Mks.ts,TabIn H p.1 p.2
structure Kp (H H':Hp):Prop where
 tups:Tups H H'
 frzs:∀b o u,H b=some (.frz o u)->H' b=some (.frz o u)
 tab:TB H->TB H'
theorem Kp.refl (H:Hp):Kp H H:=⟨Tups.refl H,fun _ _ _ h=>h,fun h=>h⟩
theorem Kp.trans {H H1 H2:Hp} (a:Kp H H1) (b:Kp H1 H2):Kp H H2:=⟨a.tups.trans b.tups,fun c o u h=>b.frzs c o u (a.frzs c o u h),fun h=>b.tab (a.tab h)⟩
theorem Kp.same {H H':Hp} (a:Tups H H') (b:∀b o u,H b=some (.frz o u)->H' b=some (.frz o u)) (c:∀P ps,H P=some (.tbl ps)->H' P=some (.tbl ps)):Kp H H':=
 ⟨a,b,fun h p hp=>by
  obtain ⟨ps,h1,_⟩:=id (h p hp)
  exact (h p hp).up ((c _ _ h1).trans h1.symm) b⟩
theorem FixL.kp {K:PySem.W.Frag} {H H':Hp} {a:Addr} {xs:List V} (h:FixL K H a xs) (k:Kp H H'):FixL K H' a xs:=h.elim (fun ⟨o,e⟩=>.inl ⟨o,k.frzs _ _ _ e⟩) .inr
mutual
noncomputable def RV (K:PySem.W.Frag) (ι:List Addr) (H:Hp):D->V->Prop
 |.non,v=>v=.non
 |.bl b,v=>v=.bl b
 |.int i,v=>v=.int i
 |.str x,v=>v=.str x
 |.tup ds,v=>∃a xs,v=.ref a/\H a=some (.tup xs)/\RVs K ι H ds xs
 |.ref l,v=>∃a,ι[l]?=some a/\v=.ref a
 |.fix ds,v=>∃a xs,v=.ref a/\FixL K H a xs/\RVs K ι H ds xs
noncomputable def RVs (K:PySem.W.Frag) (ι:List Addr) (H:Hp):List D->List V->Prop
 | [],vs=>vs=[]
 |d::ds,vs=>∃v r,vs=v::r/\RV K ι H d v/\RVs K ι H ds r
end
noncomputable def kI (k:List Int):List Key:=k.map Sum.inl
noncomputable def RKs (K:PySem.W.Frag) (ι:List Addr) (H:Hp):List (List Int × D)->List (List Key × V)->Prop
 | [],ws=>ws=[]
 |(k,d)::r,ws=>∃v w,ws=(kI k,v)::w/\RV K ι H d v/\RKs K ι H r w
noncomputable def RFs (K:PySem.W.Frag) (ι:List Addr) (H:Hp):List (Str × D)->List (Str × V)->Prop
 | [],ws=>ws=[]
 |(f,d)::r,ws=>∃v w,ws=(f,v)::w/\RV K ι H d v/\RFs K ι H r w
noncomputable def RO (K:PySem.W.Frag) (ι:List Addr) (H:Hp) (a:Addr):MO->Prop
 |.lst ds=>∃xs,H a=some (.lst xs)/\RVs K ι H ds xs
 |.dic kvs=>kvs=[]/\H a=some (.dK [])
 |.ins c fs=>∃C dx ws,Mks.cl[c]?=some C/\H a=some (.ins C dx ws)/\RFs K ι H fs ws
 |.dtp kvs=>(kvs.map (·.1)).Nodup/\∃ws,H a=some (.dT ws)/\RKs K ι H kvs ws
structure RH (K:PySem.W.Frag) (ι:List Addr) (H:Hp) (S:St):Prop where
 len:ι.length=S.len
 nd:ι.Nodup
 obj:∀l o,S.get l=some o->∃a,ι[l]?=some a/\RO K ι H a o
 tab:TB H
structure Ext (ι:List Addr) (H:Hp) (ι':List Addr) (H':Hp):Prop where
 pre:ι <+: ι'
 kp:Kp H H'
 rest:∀a o,a∉ι->H a=some o->(H' a=some o\/((∃ps,o=.tbl ps)/\∃ps,H' a=some (.tbl ps)))/\a∉ι'
theorem Ext.refl (ι:List Addr) (H:Hp):Ext ι H ι H:=⟨List.prefix_refl _,Kp.refl H,fun a o h e=>⟨.inl e,h⟩⟩
theorem Ext.trans {ι ι1 ι2:List Addr} {H H1 H2:Hp} (a:Ext ι H ι1 H1) (b:Ext ι1 H1 ι2 H2):Ext ι H ι2 H2:=
 ⟨a.pre.trans b.pre,a.kp.trans b.kp,fun x o h e=>by
  obtain ⟨e1,h1⟩:=a.rest x o h e
  rcases e1 with e1|⟨t,ps,e1⟩
  · exact b.rest x o h1 e1
  · obtain ⟨e2,h2⟩:=b.rest x _ h1 e1
    refine ⟨.inr ⟨t,?_⟩,h2⟩
    rcases e2 with e2|⟨_,e2⟩
    · exact ⟨ps,e2⟩
    · exact e2⟩
theorem Ext.keep {ι ι1:List Addr} {H H1:Hp} (x:Ext ι H ι1 H1) {a:Addr} {o:HO} (h:a∉ι) (e:H a=some o) (n:∀ps,o≠.tbl ps):H1 a=some o:=
 (x.rest a o h e).1.elim id fun ⟨⟨ps,z⟩,_⟩=>absurd z (n ps)
theorem pre_get {ι ι':List Addr} (h:ι <+: ι') {l:Nat} {a:Addr} (e:ι[l]?=some a):ι'[l]?=some a:=by
 obtain ⟨t,rfl⟩:=h
 rw [List.getElem?_append_left (List.getElem?_eq_some_iff.mp e).1]
 exact e
mutual
theorem RV.up {K:PySem.W.Frag} {ι ι':List Addr} {H H':Hp} (hp:ι <+: ι') (hk:Kp H H'):∀{d:D} {v:V},RV K ι H d v->RV K ι' H' d v
 |.non,_,r=>r
 |.bl _,_,r=>r
 |.int _,_,r=>r
 |.str _,_,r=>r
 | .tup ds, _, r => by
   obtain ⟨a,xs,e,ha,q⟩:=r
   exact ⟨a,xs,e,hk.tups _ _ ha,RVs.up hp hk q⟩
 | .ref l, _, r => by
   obtain ⟨a,e,q⟩:=r
   exact ⟨a,pre_get hp e,q⟩
 | .fix ds, _, r => by
   obtain ⟨a,xs,e,ha,q⟩:=r
   exact ⟨a,xs,e,ha.kp hk,RVs.up hp hk q⟩
theorem RVs.up {K:PySem.W.Frag} {ι ι':List Addr} {H H':Hp} (hp:ι <+: ι') (hk:Kp H H'):∀{ds:List D} {vs:List V},RVs K ι H ds vs->RVs K ι' H' ds vs
 | [],_,r=>r
 | d :: ds, vs, r => by
   obtain ⟨v,w,e,r1,r2⟩:=r
   exact ⟨v,w,e,RV.up hp hk r1,RVs.up hp hk r2⟩
end
theorem RKs.up {K:PySem.W.Frag} {ι ι':List Addr} {H H':Hp} (hp:ι <+: ι') (hk:Kp H H'):∀{kvs:List (List Int × D)} {ws:List (List Key × V)},RKs K ι H kvs ws->RKs K ι' H' kvs ws
 | [],_,r=>r
 | (k, d) :: kvs, ws, r => by
   obtain ⟨v,w,e,r1,r2⟩:=r
   exact ⟨v,w,e,RV.up hp hk r1,RKs.up hp hk r2⟩
theorem RFs.up {K:PySem.W.Frag} {ι ι':List Addr} {H H':Hp} (hp:ι <+: ι') (hk:Kp H H'):∀{fs:List (Str × D)} {ws:List (Str × V)},RFs K ι H fs ws->RFs K ι' H' fs ws
 | [],_,h=>h
 | (f, d) :: r, _, h => by
   obtain ⟨v,w,e,r1,r2⟩:=h
   exact ⟨v,w,e,RV.up hp hk r1,RFs.up hp hk r2⟩
theorem RFs.length {K:PySem.W.Frag} {ι:List Addr} {H:Hp}:∀{fs:List (Str × D)} {ws:List (Str × V)},RFs K ι H fs ws->ws.length=fs.length
 | [],_,h=>by cases (show _=[] from h);rfl
 | (f, d) :: r, _, h => by
   obtain ⟨v,w,rfl,r1,r2⟩:=h
   simp [RFs.length r2]
theorem RFs.look {K:PySem.W.Frag} {ι:List Addr} {H:Hp} (f:Str):∀{fs:List (Str × D)} {ws:List (Str × V)},RFs K ι H fs ws->(fs.lookup f=none/\ws.lookup f=none)\/∃d v,fs.lookup f=some d/\ws.lookup f=some v/\RV K ι H d v
 | [],_,h=>by cases (show _=[] from h);exact .inl ⟨rfl,rfl⟩
 | (g, d) :: r, _, h => by
   obtain ⟨v,w,rfl,r1,r2⟩:=h
   by_cases c:(f == g)=true
   · exact .inr ⟨d,v,by simp only [List.lookup,c],by simp only [List.lookup,c],r1⟩
   · have c:(f == g)=false:=by simpa using c
     simp only [List.lookup,c]
     exact RFs.look f r2
theorem RFs.put {K:PySem.W.Frag} {ι:List Addr} {H:Hp} (f:Str) {d:D} {v:V} (q:RV K ι H d v):∀{fs:List (Str × D)} {ws:List (Str × V)},RFs K ι H fs ws->RFs K ι H (putFD f d fs) (putF f v ws)
 | [],_,h=>by cases (show _=[] from h);exact ⟨v,[],rfl,q,rfl⟩
 | (g, x) :: r, _, h => by
   obtain ⟨u,w,rfl,r1,r2⟩:=h
   unfold putFD putF
   by_cases c:g=f
   · rw [if_pos c,if_pos c];exact ⟨v,w,rfl,q,r2⟩
   · rw [if_neg c,if_neg c];exact ⟨u,_,rfl,r1,RFs.put f q r2⟩
theorem kI_inj {j k:List Int} (h:kI j=kI k):j=k:=by
 unfold kI at h
 exact (List.map_inj_right (fun a b e=>Sum.inl.inj e)).mp h
theorem RKs.val {K:PySem.W.Frag} {ι:List Addr} {H:Hp} (k:List Int):∀{kvs:List (List Int × D)} {ws:List (List Key × V)},RKs K ι H kvs ws->(valP kvs k=none/\valV ws (kI k)=none)\/∃d v,valP kvs k=some d/\valV ws (kI k)=some v/\RV K ι H d v
 | [],_,r=>by rw [show _=[] from r];exact .inl ⟨rfl,rfl⟩
 | (j, d) :: kvs, ws, r => by
   obtain ⟨v,w,rfl,r1,r2⟩:=r
   by_cases e:j=k
   · subst e
     exact .inr ⟨d,v,by simp [valP],by simp [valV],r1⟩
   · have e':¬kI j=kI k:=fun z=>e (kI_inj z)
     have h1:valP ((j,d)::kvs) k=valP kvs k:=by simp [valP,e]
     have h2:valV ((kI j,v)::w) (kI k)=valV w (kI k):=by simp [valV,e']
     rw [h1,h2]
     exact RKs.val k r2
theorem RV.ext {K:PySem.W.Frag} {ι ι':List Addr} {H H':Hp} (h:Ext ι H ι' H') {d:D} {v:V} (r:RV K ι H d v):RV K ι' H' d v:=r.up h.pre h.kp
theorem RVs.ext {K:PySem.W.Frag} {ι ι':List Addr} {H H':Hp} (h:Ext ι H ι' H') {ds:List D} {vs:List V} (r:RVs K ι H ds vs):RVs K ι' H' ds vs:=r.up h.pre h.kp
theorem RVs.length {K:PySem.W.Frag} {ι:List Addr} {H:Hp}:∀{ds:List D} {vs:List V},RVs K ι H ds vs->vs.length=ds.length
 | [],_,r=>by rw [show _=[] from r];rfl
 | d :: ds, vs, r => by
   obtain ⟨v,w,rfl,_,r2⟩:=r
   simp [RVs.length r2]
theorem RVs.get {K:PySem.W.Frag} {ι:List Addr} {H:Hp}:∀{ds:List D} {vs:List V} {i:Nat} {d:D},RVs K ι H ds vs->ds[i]?=some d->∃v,vs[i]?=some v/\RV K ι H d v
 | [],_,_,_,_,e=>by simp at e
 | d :: ds, vs, 0, d', r, e => by
   obtain ⟨v,w,rfl,r1,_⟩:=r
   simp at e;subst e
   exact ⟨v,rfl,r1⟩
 | d :: ds, vs, i + 1, d', r, e => by
   obtain ⟨v,w,rfl,_,r2⟩:=r
   obtain ⟨u,e1,e2⟩:=RVs.get (i:=i) (d:=d') r2 (by simpa using e)
   exact ⟨u,by simpa using e1,e2⟩
theorem RVs.get' {ι:List Addr} {H:Hp} {ds:List D} {vs:List V} {i:Nat} {v:V} (r:RVs K ι H ds vs) (e:vs[i]?=some v):∃d,ds[i]?=some d/\RV K ι H d v:=by
 have hi:i<ds.length:=by rw [<-r.length];exact (List.getElem?_eq_some_iff.mp e).1
 obtain ⟨u,e1,e2⟩:=r.get (List.getElem?_eq_getElem hi)
 rw [e] at e1;cases e1
 exact ⟨_,List.getElem?_eq_getElem hi,e2⟩
theorem RVs.append {K:PySem.W.Frag} {ι:List Addr} {H:Hp}:∀{ds es:List D} {vs us:List V},RVs K ι H ds vs->RVs K ι H es us->RVs K ι H (ds++es) (vs++us)
 | [],_,_,_,r,q=>by rw [show _=[] from r];exact q
 | d :: ds, es, vs, us, r, q => by
   obtain ⟨v,w,rfl,r1,r2⟩:=r
   exact ⟨v,w++us,rfl,r1,RVs.append r2 q⟩
theorem RVs.take {K:PySem.W.Frag} {ι:List Addr} {H:Hp}:∀{ds:List D} {vs:List V} (n:Nat),RVs K ι H ds vs->RVs K ι H (ds.take n) (vs.take n)
 |_,_,0,_=>rfl
 | [],_,n+1,r=>by rw [show _=[] from r];rfl
 | d :: ds, vs, n + 1, r => by
   obtain ⟨v,w,rfl,r1,r2⟩:=r
   exact ⟨v,w.take n,rfl,r1,RVs.take n r2⟩
theorem RVs.drop {K:PySem.W.Frag} {ι:List Addr} {H:Hp}:∀{ds:List D} {vs:List V} (n:Nat),RVs K ι H ds vs->RVs K ι H (ds.drop n) (vs.drop n)
 |_,_,0,r=>r
 | [],_,n+1,r=>by rw [show _=[] from r];rfl
 | d :: ds, vs, n + 1, r => by
   obtain ⟨v,w,rfl,r1,r2⟩:=r
   exact RVs.drop n r2
theorem RVs.erase {K:PySem.W.Frag} {ι:List Addr} {H:Hp} {ds:List D} {vs:List V} (n:Nat) (r:RVs K ι H ds vs):RVs K ι H (ds.eraseIdx n) (vs.eraseIdx n):=by
 rw [List.eraseIdx_eq_take_drop_succ,List.eraseIdx_eq_take_drop_succ]
 exact (r.take n).append (r.drop (n+1))
theorem RVs.ints {K:PySem.W.Frag} {ι:List Addr} {H:Hp}:∀ns:List Int,RVs K ι H (ns.map D.int) (ns.map V.int)
 | []=>rfl
 |n::ns=>⟨_,_,rfl,rfl,RVs.ints ns⟩
theorem RVs.ints_eq {K:PySem.W.Frag} {ι:List Addr} {H:Hp}:∀{ns:List Int} {vs:List V},RVs K ι H (ns.map D.int) vs->vs=ns.map V.int
 | [],_,h=>h
 | n :: ns, vs, h => by
   obtain ⟨v,r,rfl,h1,h2⟩:=h
   rw [RVs.ints_eq h2,show v=.int n from h1];rfl
theorem ints_map:∀{ds:List D} {ns:List Int},intsOf ds=some ns->ds=ns.map D.int:=by
 intro ds
 unfold intsOf
 induction ds with
 |nil=>intro ns h;simp at h;subst h;rfl
 | cons d ds ih =>
   intro ns h
   rw [List.mapM_cons] at h
   cases d with
   | int i =>
     cases e:List.mapM intOf ds with
     |none=>rw [e] at h;simp [intOf] at h
     |some ms=>rw [e] at h;simp [intOf] at h;subst h;simp [ih e]
   |_=>simp [intOf] at h
mutual
theorem RV.flat {K:PySem.W.Frag} {ι:List Addr} {H:Hp}:∀{d:D} {v:V},RV K ι H d v->R.flat ι.length d=true
 |.non,_,_=>by simp [R.flat]
 |.bl _,_,_=>by simp [R.flat]
 |.int _,_,_=>by simp [R.flat]
 |.str _,_,_=>by simp [R.flat]
 | .tup ds, _, r => by
   obtain ⟨a,xs,e,ha,q⟩:=r
   simp only [R.flat]
   exact RVs.flats q
 | .ref l, _, r => by
   obtain ⟨a,e,q⟩:=r
   simp only [R.flat,decide_eq_true_eq]
   exact (List.getElem?_eq_some_iff.mp e).1
 | .fix ds, _, r => by
   obtain ⟨a,xs,e,ha,q⟩:=r
   simp only [R.flat]
   exact RVs.flats q
theorem RVs.flats {K:PySem.W.Frag} {ι:List Addr} {H:Hp}:∀{ds:List D} {vs:List V},RVs K ι H ds vs->R.flats ι.length ds=true
 | [],_,_=>by simp [R.flats]
 | d :: ds, vs, r => by
   obtain ⟨v,w,e,r1,r2⟩:=r
   simp only [R.flats,Bool.and_eq_true]
   exact ⟨RV.flat r1,RVs.flats r2⟩
end
mutual
theorem RV.restrict {K:PySem.W.Frag} {ι ι':List Addr} {H:Hp} (hp:ι <+: ι'):∀{d:D} {v:V},R.flat ι.length d=true->RV K ι' H d v->RV K ι H d v
 |.non,_,_,r=>r
 |.bl _,_,_,r=>r
 |.int _,_,_,r=>r
 |.str _,_,_,r=>r
 | .tup ds, _, f, r => by
   obtain ⟨a,xs,e,ha,q⟩:=r
   simp only [R.flat] at f
   exact ⟨a,xs,e,ha,RVs.restrict hp f q⟩
 | .ref l, _, f, r => by
   obtain ⟨a,e,q⟩:=r
   simp only [R.flat,decide_eq_true_eq] at f
   refine ⟨a,?_,q⟩
   obtain ⟨t,rfl⟩:=hp
   rw [List.getElem?_append_left f] at e
   exact e
 | .fix ds, _, f, r => by
   obtain ⟨a,xs,e,ha,q⟩:=r
   simp only [R.flat] at f
   exact ⟨a,xs,e,ha,RVs.restrict hp f q⟩
theorem RVs.restrict {K:PySem.W.Frag} {ι ι':List Addr} {H:Hp} (hp:ι <+: ι'):∀{ds:List D} {vs:List V},R.flats ι.length ds=true->RVs K ι' H ds vs->RVs K ι H ds vs
 | [],_,_,r=>r
 | d :: ds, vs, f, r => by
   obtain ⟨v,w,e,r1,r2⟩:=r
   simp only [R.flats,Bool.and_eq_true] at f
   exact ⟨v,w,e,RV.restrict hp f.1 r1,RVs.restrict hp f.2 r2⟩
end
theorem RKs.flats {K:PySem.W.Frag} {ι:List Addr} {H:Hp}:∀{kvs:List (List Int × D)} {ws:List (List Key × V)},RKs K ι H kvs ws->R.flats ι.length (kvs.map (·.2))=true
 | [],_,_=>by simp [R.flats]
 | (k, d) :: kvs, ws, r => by
   obtain ⟨v,w,e,r1,r2⟩:=r
   simp only [List.map_cons,R.flats,Bool.and_eq_true]
   exact ⟨RV.flat r1,RKs.flats r2⟩
theorem RKs.restrict {K:PySem.W.Frag} {ι ι':List Addr} {H:Hp} (hp:ι <+: ι'):∀{kvs:List (List Int × D)} {ws:List (List Key × V)},R.flats ι.length (kvs.map (·.2))=true->RKs K ι' H kvs ws->RKs K ι H kvs ws
 | [],_,_,r=>r
 | (k, d) :: kvs, ws, f, r => by
   obtain ⟨v,w,e,r1,r2⟩:=r
   simp only [List.map_cons,R.flats,Bool.and_eq_true] at f
   exact ⟨v,w,e,RV.restrict hp f.1 r1,RKs.restrict hp f.2 r2⟩
theorem RFs.flats {K:PySem.W.Frag} {ι:List Addr} {H:Hp}:∀{fs:List (Str × D)} {ws:List (Str × V)},RFs K ι H fs ws->R.flats ι.length (fs.map (·.2))=true
 | [],_,_=>by simp
 | (f, d) :: r, _, h => by
   obtain ⟨v,w,_,r1,r2⟩:=h
   simp only [List.map_cons,flats_cons,Bool.and_eq_true]
   exact ⟨RV.flat r1,RFs.flats r2⟩
theorem RFs.restrict {K:PySem.W.Frag} {ι ι':List Addr} {H:Hp} (hp:ι <+: ι'):∀{fs:List (Str × D)} {ws:List (Str × V)},R.flats ι.length (fs.map (·.2))=true->RFs K ι' H fs ws->RFs K ι H fs ws
 | [],_,_,h=>h
 | (f, d) :: r, _, f0, h => by
   obtain ⟨v,w,e,r1,r2⟩:=h
   simp only [List.map_cons,flats_cons,Bool.and_eq_true] at f0
   exact ⟨v,w,e,RV.restrict hp f0.1 r1,RFs.restrict hp f0.2 r2⟩
theorem RO.up {K:PySem.W.Frag} {ι ι':List Addr} {H H':Hp} {a:Addr} {o:MO} (h:RO K ι H a o) (hp:ι <+: ι') (hk:Kp H H') (e:H' a=H a):RO K ι' H' a o:=by
 cases o with
 |lst ds=>obtain ⟨xs,h1,h2⟩:=h;exact ⟨xs,e.trans h1,h2.up hp hk⟩
 |dic kvs=>obtain ⟨h1,h2⟩:=h;exact ⟨h1,e.trans h2⟩
 |ins c fs=>obtain ⟨C,dx,ws,h0,h1,h2⟩:=h;exact ⟨C,dx,ws,h0,e.trans h1,h2.up hp hk⟩
 |dtp kvs=>obtain ⟨h0,ws,h1,h2⟩:=h;exact ⟨h0,ws,e.trans h1,h2.up hp hk⟩
theorem RO.stay {K:PySem.W.Frag} {ι ι':List Addr} {H H':Hp} {a:Addr} {o:MO} (h:RO K ι H a o) (x:Ext ι H ι' H') (e:H' a=H a):RO K ι' H' a o:=h.up x.pre x.kp e
section
variable {K:PySem.W.Frag} {ι ι':List Addr} {H H':Hp} {S S' T:St} {l:Nat} {a p:Addr}
theorem RH.mem (h:RH K ι H S) {o:MO} (e:S.get l=some o):∃a,ι[l]?=some a/\RO K ι H a o/\a∈ι:=by
 obtain ⟨a,h1,h2⟩:=h.obj l o e
 exact ⟨a,h1,h2,List.mem_of_getElem? h1⟩
theorem get_some (h:l<S.len):∃o,S.get l=some o:=by
 unfold St.len at h
 unfold St.get
 split
 · rename_i c;exact ⟨_,List.getElem?_eq_getElem c⟩
 · exact ⟨_,List.getElem?_eq_getElem (by omega)⟩
theorem RH.off (h:RH K ι H S) (x:Ext ι H ι H') (e:∀a∈ι,H' a=H a):RH K ι H' S:=
 ⟨h.len,h.nd,fun l o q=>let ⟨a,h1,h2,hm⟩:=h.mem q;⟨a,h1,h2.stay x (e a hm)⟩,x.kp.tab h.tab⟩
theorem RH.live (h:RH K ι H S) (ha:a∈ι):∃o,H a=some o/\(∀xs,o≠.tup xs)/\(∀z u,o≠.frz z u)/\∀ps,o≠.tbl ps:=by
 obtain ⟨l,hl⟩:=List.mem_iff_getElem?.mp ha
 have hlt:l<S.len:=by rw [<-h.len];exact (List.getElem?_eq_some_iff.mp hl).1
 obtain ⟨o,e⟩:=get_some hlt
 obtain ⟨b,h1,h2⟩:=h.obj l o e
 rw [hl] at h1;cases h1
 cases o with
 |lst ds=>obtain ⟨xs,q,_⟩:=h2;exact ⟨_,q,⟨fun _ z=>(by cases z),fun _ _ z=>(by cases z),fun _ z=>(by cases z)⟩⟩
 |dic kvs=>exact ⟨_,h2.2,⟨fun _ z=>(by cases z),fun _ _ z=>(by cases z),fun _ z=>(by cases z)⟩⟩
 |ins c fs=>obtain ⟨C,dx,ws,_,q,_⟩:=h2;exact ⟨_,q,⟨fun _ z=>(by cases z),fun _ _ z=>(by cases z),fun _ z=>(by cases z)⟩⟩
 |dtp kvs=>obtain ⟨_,ws,q,_⟩:=h2;exact ⟨_,q,⟨fun _ z=>(by cases z),fun _ _ z=>(by cases z),fun _ z=>(by cases z)⟩⟩
theorem RH.fresh (h:RH K ι H S) (hp:H p=Option.none):p∉ι:=fun hm=>by
 obtain ⟨o,e,_⟩:=h.live hm
 rw [hp] at e;cases e
theorem RH.notup (h:RH K ι H S) {xs:List V} (hp:H p=some (.tup xs)):p∉ι:=fun hm=>by
 obtain ⟨o,e,q,_⟩:=h.live hm
 rw [hp] at e;cases e;exact q _ rfl
theorem Kp.new (hp:H p=Option.none) (o:HO):Kp H (upd H p o):=
 .same (Tups.upd_new hp) (fun b z u e=>by rw [upd_ne (ne_of_none e hp)];exact e) fun b ps e=>by rw [upd_ne (ne_of_none e hp)];exact e
theorem Ext.new (hp:H p=Option.none) (o:HO):Ext ι H ι (upd H p o):=
 ⟨List.prefix_refl _,Kp.new hp o,fun a u h e=>⟨.inl (by rw [upd_ne (ne_of_none e hp)];exact e),h⟩⟩
theorem RH.new (h:RH K ι H S) (hp:H p=Option.none) (o:HO):RH K ι (upd H p o) S:=
 h.off (Ext.new hp o) fun a ha=>upd_ne fun e=>h.fresh hp (e▸ha)
theorem get_push (S:St) (o:MO):(S.push o).get S.len=some o:=by
 have h:¬S.len<S.frz.length:=by unfold St.len;omega
 unfold St.get St.push
 simp only [h,if_false]
 unfold St.len
 simp
theorem get_push_lt {o:MO} (h:l<S.len):(S.push o).get l=S.get l:=by
 unfold St.len at h
 unfold St.get St.push
 simp only
 split
 · rfl
 · rw [List.getElem?_append_left (by omega)]
theorem push_len (S:St) (o:MO):(S.push o).len=S.len+1:=by simp [St.push,St.len];omega
theorem Ext.obj (h:RH K ι H S) (hp:H p=Option.none) (u:HO):Ext ι H (ι++[p]) (upd H p u):=
 ⟨List.prefix_append _ _,Kp.new hp u,fun a o ha e=>⟨.inl (by rw [upd_ne (ne_of_none e hp)];exact e),by
  intro z
  rcases List.mem_append.mp z with z|z
  · exact ha z
  · simp at z;exact ne_of_none e hp z⟩⟩
theorem RH.obj' (h:RH K ι H S) (hp:H p=Option.none) (u:HO) (o:MO) (ho:RO K (ι++[p]) (upd H p u) p o):RH K (ι++[p]) (upd H p u) (S.push o):=by
 refine ⟨by rw [List.length_append,h.len,push_len];rfl,?_,fun l o' e=>?_,(Kp.new hp u).tab h.tab⟩
 · rw [List.nodup_append]
   refine ⟨h.nd,by simp,fun a ha b hb=>?_⟩
   simp at hb;subst hb
   exact fun z=>h.fresh hp (z▸ha)
 · by_cases hl:l<S.len
   · rw [get_push_lt hl] at e
     obtain ⟨a,h1,h2,hm⟩:=h.mem e
     exact ⟨a,pre_get (List.prefix_append _ _) h1,h2.stay (Ext.obj h hp u) (upd_ne fun z=>h.fresh hp (z▸hm))⟩
   · have hl2:=get_lt e
     rw [push_len] at hl2
     have:l=S.len:=by omega
     subst this
     rw [get_push] at e;cases e
     exact ⟨p,by rw [<-h.len];simp,ho⟩
theorem RH.lay (h:RH K ι H S) (hp:H p=Option.none) {ds:List D} {xs:List V} (r:RVs K ι H ds xs):RH K (ι++[p]) (upd H p (.lst xs)) (S.push (.lst ds)):=
 h.obj' hp _ _ ⟨xs,upd_same,r.ext (Ext.obj h hp _)⟩
theorem RH.last (h:RH K ι H S) (p:Addr):(ι++[p])[S.len]?=some p:=by rw [<-h.len];simp
theorem Ext.wr (h:RH K ι H S) {o:MO} (e:S.get l=some o) (hl:ι[l]?=some a) (u:HO):Ext ι H ι (upd H a u):=by
 have hm:=List.mem_of_getElem? hl
 refine ⟨List.prefix_refl _,.same (fun b xs hb=>?_) (fun b z v hb=>?_) fun b ps hb=>?_,fun b o hb e=>⟨.inl ((upd_ne fun (z:b=a)=>hb (by rw [z];exact hm)).trans e),hb⟩⟩
 · rw [upd_ne];exact hb
   rintro rfl
   exact h.notup hb hm
 · rw [upd_ne];exact hb
   rintro rfl
   obtain ⟨o,e,_,q,_⟩:=h.live hm
   rw [hb] at e;cases e;exact q _ _ rfl
 · rw [upd_ne];exact hb
   rintro rfl
   obtain ⟨o,e,_,_,q⟩:=h.live hm
   rw [hb] at e;cases e;exact q _ rfl
theorem put_get {o:MO} (e:S.put l o=some S'):S'.len=S.len/\(l<S.len->S'.get l=some o)/\(∀m,m≠l->S'.get m=S.get m)/\S.frz.length<=l:=by
 unfold St.put at e
 split at e
 · cases e
 · split at e
   · cases e
   · injection e with e
     subst e
     rename_i c1 c2
     refine ⟨by simp [St.len],fun hl=>?_,fun m hm=>?_,by omega⟩
     · unfold St.len at hl
       unfold St.get
       simp only [c1,if_false]
       rw [List.getElem?_set_self (by omega)]
     · unfold St.get
       simp only
       split
       · rfl
       · rw [List.getElem?_set_ne (by omega)]
theorem RH.wr (h:RH K ι H S) {o o':MO} {u:HO} (e:S.get l=some o) (hl:ι[l]?=some a) (w:S.put l o'=some S') (ho:RO K ι (upd H a u) a o'):RH K ι (upd H a u) S':=by
 obtain ⟨h1,h2,h3,_⟩:=put_get w
 refine ⟨h.len.trans h1.symm,h.nd,fun m o2 e2=>?_,(Ext.wr h e hl u).kp.tab h.tab⟩
 by_cases hm:m=l
 · subst hm
   rw [h2 (get_lt e)] at e2;cases e2
   exact ⟨a,hl,ho⟩
 · rw [h3 m hm] at e2
   obtain ⟨b,q1,q2,_⟩:=h.mem e2
   refine ⟨b,q1,q2.stay (Ext.wr h e hl u) (upd_ne ?_)⟩
   rintro rfl
   obtain ⟨i1,e1⟩:=List.getElem?_eq_some_iff.mp hl
   obtain ⟨i2,e2⟩:=List.getElem?_eq_some_iff.mp q1
   exact hm ((List.getElem_inj h.nd).mp (e2.trans e1.symm))
end
end R
end
section
namespace R
open PySem PySem.Spec PyProof.Rows L2
section
variable {prog:Program} {w:World} {K:Type} [DecidableEq K] {knd:HeapKind prog w K} {A:Around} {E:Value->Shared->Prop} {s:Shared} {xs ys:List (K × Addr × Value)} {a b d:Addr}
theorem nodup_at {ks:List K} (nd:ks.Nodup) {i j:Nat} {k:K} (hi:ks[i]?=some k) (hj:ks[j]?=some k):i=j:=by
 obtain ⟨h1,e1⟩:=List.getElem?_eq_some_iff.mp hi
 obtain ⟨h2,e2⟩:=List.getElem?_eq_some_iff.mp hj
 exact (List.getElem_inj nd).mp (e1.trans e2.symm)
theorem pairs_same {nm:String} {Q:Bool->Shared->Prop} (hu:knd.room A) (ha:(a == sysModules)=false) (hb:(b == sysModules)=false) (da:s.heap.DictOfH knd a xs) (db:s.heap.DictOfH knd b ys) (hk:xs.map (·.1)=ys.map (·.1))
  (he:∀(i:Nat) x y,xs[i]?=some x->ys[i]?=some y->SeqAt.EqAt A s x.2.2 y.2.2 true) (h:Q true s):wpAny (model prog w) A (Builtin.Dict.samePairs nm a b) Q E s:=by
 obtain ⟨oa,es,ep,hoa,_,hda,hea,hia,hna⟩:=da
 obtain ⟨ob,es',ep',hob,_,hdb,heb,hib,hnb⟩:=db
 have hla:es.size=xs.length:=size_of_entries hea
 have hlb:es'.size=ys.length:=size_of_entries heb
 have hl:xs.length=ys.length:=by have:=congrArg List.length hk;simpa using this
 unfold Builtin.Dict.samePairs Builtin.Dict.showsAll
 rw [if_neg (show ¬(a == sysModules)=true by rw [ha];exact Bool.false_ne_true),if_neg (show ¬(b == sysModules)=true by rw [hb];exact Bool.false_ne_true)]
 refine wpAny_bind (wpAny_pure (wpAny_bind (wpAny_pure ?_)))
 refine wpAny_bind (wpAny_dictEntries hoa hda ?_)
 dsimp only
 refine wpAny_bind (wpAny_dictEntries hob hdb ?_)
 rw [if_neg (by rw [hla,hlb,hl];simp)]
 refine wpAny_bind (wpAny_dictEpoch hoa hda ?_)
 refine wpAny_bind ?_
 rw [Std.Legacy.Range.forIn_eq_forIn_range']
 simp only [Std.Legacy.Range.size,Nat.sub_zero,Nat.add_sub_cancel,Nat.div_one]
 refine wpAny_forIn_list _ (fun rest q s'=>s'=s/\q=(none,())/\∃i,rest=List.range' i (es.size - i)/\i<=es.size) _ ?_ ?_ _ _ ⟨rfl,rfl,0,by simp,Nat.zero_le _⟩
 · rintro x rest q s' ⟨rfl,rfl,i,hr,hi⟩
   have hlt:i<es.size:=by
    rcases Nat.lt_or_ge i es.size with h|h
    · exact h
    · rw [Nat.sub_eq_zero_of_le h] at hr;simp at hr
   obtain ⟨rfl,hrest⟩:x=i/\rest=List.range' (i+1) (es.size - (i+1)):=by
    have e:es.size - i=(es.size - (i+1))+1:=by omega
    rw [e,List.range'_succ] at hr
    injection hr with h1 h2
    exact ⟨h1,h2⟩
   obtain ⟨⟨k,c,v⟩,hx⟩:∃y,xs[x]?=some y:=⟨xs[x]'(by omega),List.getElem?_eq_getElem _⟩
   obtain ⟨⟨k',c',v'⟩,hy⟩:∃y,ys[x]?=some y:=⟨ys[x]'(by omega),List.getElem?_eq_getElem _⟩
   have ekk:k'=k:=by
    have e:=congrArg (fun l=>l[x]?) hk
    simp only [List.getElem?_map,hx,hy,Option.map_some] at e
    exact (Option.some.inj e).symm
   subst ekk
   refine wpAny_bind (wpAny_dictEntries hoa hda ?_)
   rw [entry_at hea x,hx]
   show wpAny _ _ (holding [Value.ref c,v] _ >>= _) _ _ _
   refine wpAny_bind (wpAny_holding (wpAny_bind (wpAny_dictFind_heap (k:=k') hu (hia _ (List.mem_of_getElem? hx)) hob hdb heb hib hnb (fun hno=>absurd hy (hno x _)) fun j p hj=>?_)))
   have ej:j=x:=nodup_at hnb (k:=k') (by rw [List.getElem?_map,hj];rfl) (by rw [List.getElem?_map,hy];rfl)
   subst ej
   rw [hy] at hj
   cases hj
   refine wpAny_bind (wpAny_dictEntries hob hdb ?_)
   rw [entry_at heb j,hy]
   refine wpAny_holding (he j _ _ hx hy prog w _ _ ?_)
   show wpAny _ _ (if (!true)=true then _ else _) _ _ _
   rw [if_neg (by decide)]
   refine wpAny_bind (wpAny_dictEpoch hoa hda ?_)
   rw [if_neg (by simp)]
   exact wpAny_pure ⟨rfl,rfl,j+1,hrest,hlt⟩
 · rintro q s' ⟨rfl,rfl,i,hr,hi⟩
   exact wpAny_pure h
theorem heq_eq {Q:Value->Shared->Prop} (hr:knd.room A.in1) (hu:A.units<cLine) (ha:(a == sysModules)=false) (hb:(b == sysModules)=false) (da:s.heap.DictOfH knd a xs) (db:s.heap.DictOfH knd b ys) (hk:xs.map (·.1)=ys.map (·.1))
  (he:∀(i:Nat) x y,xs[i]?=some x->ys[i]?=some y->SeqAt.EqAt A.in1 s x.2.2 y.2.2 true) (h:Q (.bool true) s):wpAny (model prog w) A (compareOp .Eq (.ref a) (.ref b)) Q E s:=by
 refine wpAny_richCompare_same_room (op:=.Eq) da.typeIs db.typeIs PySem.F.slot_dict_eq (wpAny_call_entry PySem.F.slot_dict_eq da.typeIs PySem.F.entry_dict_eq ?_ (PySem.F.args_dict_eq_2 _ _)) hu
 show wpAny _ _ (Builtin.Dict.dictSlotArgs "__eq__" ⟨[.ref a,.ref b],[]⟩ >>= _) _ _ s
 refine wpAny_bind ?_
 unfold Builtin.Dict.dictSlotArgs
 refine wpAny_bind (wpAny_notOrdered_dict da.typeIs ?_)
 show wpAny _ _ (pure (Value.ref a,Value.ref b)) _ _ s
 refine wpAny_pure ?_
 refine wpAny_bind (wpAny_isInstance (T:="dict") db.typeIs PySem.F.sub_dict_dict ?_)
 simp only [Bool.not_true,Bool.false_eq_true,if_false]
 refine wpAny_bind (wpAny_pure (wpAny_bind (wpAny_pure ?_)))
 refine wpAny_bind (pairs_same hr ha hb da db hk he ?_)
 refine wpAny_pure ⟨_,rfl,?_,?_⟩
 · exact fun x=>nomatch x
 · simpa using h
theorem heq_ne {Q:Value->Shared->Prop} (hr:knd.room A.in1) (hu:A.units<cLine) (ha:(a == sysModules)=false) (hb:(b == sysModules)=false) (da:s.heap.DictOfH knd a xs) (db:s.heap.DictOfH knd b ys) (hk:xs.map (·.1)=ys.map (·.1))
  (he:∀(i:Nat) x y,xs[i]?=some x->ys[i]?=some y->SeqAt.EqAt A.in1 s x.2.2 y.2.2 true) (h:Q (.bool false) s):wpAny (model prog w) A (compareOp .NotEq (.ref a) (.ref b)) Q E s:=by
 refine wpAny_richCompare_same_room (op:=.NotEq) da.typeIs db.typeIs PySem.F.slot_dict_ne (wpAny_call_entry PySem.F.slot_dict_ne da.typeIs PySem.F.entry_dict_ne ?_ (PySem.F.args_dict_ne_2 _ _)) hu
 show wpAny _ _ (Builtin.Dict.dictSlotArgs "__ne__" ⟨[.ref a,.ref b],[]⟩ >>= _) _ _ s
 refine wpAny_bind ?_
 unfold Builtin.Dict.dictSlotArgs
 refine wpAny_bind (wpAny_notOrdered_dict da.typeIs ?_)
 show wpAny _ _ (pure (Value.ref a,Value.ref b)) _ _ s
 refine wpAny_pure ?_
 refine wpAny_bind (wpAny_isInstance (T:="dict") db.typeIs PySem.F.sub_dict_dict ?_)
 simp only [Bool.not_true,Bool.false_eq_true,if_false]
 refine wpAny_bind (wpAny_pure (wpAny_bind (wpAny_pure ?_)))
 refine wpAny_bind (pairs_same hr ha hb da db hk he ?_)
 refine wpAny_pure ⟨_,rfl,?_,?_⟩
 · exact fun x=>nomatch x
 · simpa using h
end
end R
end
section
namespace R
open PySem PySem.Spec PyProof.Rows L2
variable [Mks]
noncomputable def wVK:Option Int->V|none=>.non|some i=>.int i
theorem paired_at {α β:Type} {Rl:α->β->Prop}:∀{ks:List α} {xs:List β},Paired Rl ks xs->∀{i:Nat} {x:β},xs[i]?=some x->∃p,ks[i]?=some p/\Rl p x
 |_,_,.nil,i,x,h=>by simp at h
 |_,_,.cons r t,0,x,h=>by simp at h;subst h;exact ⟨_,rfl,r⟩
 | _, _, .cons r t, i + 1, x, h => by
   simp at h
   obtain ⟨p,h1,h2⟩:=paired_at t h
   exact ⟨p,by simpa using h1,h2⟩
theorem kt_keys {H:Hp}:∀{ks:List (List Key × V)} {xs:List (List Key × Addr × Value)},KT H ks xs->xs.map (·.1)=ks.map (·.1)
 |_,_,.nil=>rfl
 |_,_,.cons r t=>by rw [List.map_cons,List.map_cons,kt_keys t,r.1]
theorem RKs.words {K:PySem.W.Frag} {ι:List Addr} {H:Hp}:∀{kvs:List (List Int × D)} {ws:List (List Key × V)} {u:List (List Int × Option Int)},RKs K ι H kvs ws->wordsK kvs=some u->ws=u.map fun p=>(kI p.1,wVK p.2)
 | [], ws, u, r, h => by
   have h:u=[]:=by simpa [wordsK] using h.symm
   subst h;exact r
 | (k, d) :: kr, ws, u, r, h => by
   obtain ⟨v,w,rfl,r1,r2⟩:=r
   unfold wordsK at h
   rw [List.mapM_cons] at h
   cases e:wordOf d with
   |none=>simp [e] at h
   | some o =>
     cases e2:kr.mapM fun kv=>(wordOf kv.2).map fun w=>(kv.1,w) with
     |none=>simp [e,e2] at h
     | some t =>
       simp [e,e2] at h
       subst h
       rw [RKs.words r2 (show wordsK kr=some t from e2),List.map_cons]
       congr 2
       cases d with
       |non=>cases e;exact r1
       |int i=>cases e;exact r1
       |_=>cases e
section
variable {X:Cx} {pins:List (Addr × Obj)} {σ:L2.St} {H:Hp} {s:Shared} {a b:Addr} {A:Around} {E:Value->Shared->Prop}
theorem dT_vals {u:List (List Int × Option Int)} {xs ys:List (List Key × Addr × Value)} (r1:KT H (u.map fun p=>(kI p.1,wVK p.2)) xs) (r2:KT H (u.map fun p=>(kI p.1,wVK p.2)) ys):∀(i:Nat) x y,xs[i]?=some x->ys[i]?=some y->SeqAt.EqAt A s x.2.2 y.2.2 true:=fun i x y hx hy=>by
 obtain ⟨p,h1,_,_,h2⟩:=paired_at r1 hx
 obtain ⟨q,g1,_,_,g2⟩:=paired_at r2 hy
 rw [h1] at g1
 cases g1
 rw [List.getElem?_map] at h1
 cases e:u[i]? with
 |none=>rw [e] at h1;cases h1
 | some w =>
   rw [e] at h1
   cases h1
   obtain ⟨k,o⟩:=w
   cases o with
   | none =>
     have e1:x.2.2=Value.none:=h2
     have e2:y.2.2=Value.none:=g2
     rw [e1,e2]
     exact SeqAt.EqAt.same _
   | some z =>
     obtain ⟨t,e1⟩:=(show ∃t,x.2.2=Value.int z t from h2)
     obtain ⟨t',e2⟩:=(show ∃t,y.2.2=Value.int z t from g2)
     rw [e1,e2]
     have:=SeqAt.EqAt.int_int (A:=A) (s:=s) z t z t'
     simpa using this
theorem dT_eq {u:List (List Int × Option Int)} {Q:Value->Shared->Prop} (hu:A.units+1<cLine) (I:Inv X pins σ H s) (h1:H a=some (.dT (u.map fun p=>(kI p.1,wVK p.2)))) (h2:H b=some (.dT (u.map fun p=>(kI p.1,wVK p.2)))) (h:Q (.bool true) s):wpAny (model X.prog X.w) A (compareOp .Eq (.ref a) (.ref b)) Q E s:=by
 obtain ⟨_,s1,xs,r1,d1⟩:=dt_of I.hok h1
 obtain ⟨_,s2,ys,r2,d2⟩:=dt_of I.hok h2
 exact heq_eq (tupleKind_room_in1 hu) (by omega) s1 s2 d1 d2 ((kt_keys r1).trans (kt_keys r2).symm) (dT_vals r1 r2) h
theorem dT_ne {u:List (List Int × Option Int)} {Q:Value->Shared->Prop} (hu:A.units+1<cLine) (I:Inv X pins σ H s) (h1:H a=some (.dT (u.map fun p=>(kI p.1,wVK p.2)))) (h2:H b=some (.dT (u.map fun p=>(kI p.1,wVK p.2)))) (h:Q (.bool false) s):wpAny (model X.prog X.w) A (compareOp .NotEq (.ref a) (.ref b)) Q E s:=by
 obtain ⟨_,s1,xs,r1,d1⟩:=dt_of I.hok h1
 obtain ⟨_,s2,ys,r2,d2⟩:=dt_of I.hok h2
 exact heq_ne (tupleKind_room_in1 hu) (by omega) s1 s2 d1 d2 ((kt_keys r1).trans (kt_keys r2).symm) (dT_vals r1 r2) h
end
theorem dKvs_inv {S:R.St} {d:D} {kvs:List (List Int × D)} (h:dKvs S d=some kvs):∃l,d=.ref l/\S.get l=some (.dtp kvs):=by
 cases d with
 | ref l =>
   refine ⟨l,rfl,?_⟩
   unfold dKvs at h
   dsimp only at h
   cases e:S.get l with
   |none=>rw [e] at h;cases h
   | some o =>
     rw [e] at h
     cases o with
     |dtp k=>cases h;rfl
     |_=>cases h
 |_=>cases h
theorem key_ok' {K:PySem.W.Frag} {ι:List Addr} {H:Hp} {y:D} {v:V} {k:List Int} (r:RV K ι H y v) (h:keyOf y=some k):∃b,v=.ref b/\H b=some (.tup ((kI k).map kV)):=by
 cases y with
 | tup ds =>
   obtain ⟨b,xs,rfl,hb,rr⟩:=r
   simp only [keyOf] at h
   rw [ints_map h] at rr
   rw [rr.ints_eq] at hb
   refine ⟨b,rfl,?_⟩
   rw [hb]
   unfold kI
   rw [List.map_map];rfl
 |_=>cases h
theorem eqAny_ex {K:PySem.W.Frag} {ι:List Addr} {H:Hp} {S:R.St} {d e:D} {x y:V} {k:Bool} (hH:RH K ι H S) (hd:RV K ι H d x) (he:RV K ι H e y) (h:eqAny S d e=some k) :
  (∃(u:List (List Int × Option Int)) (a b:Addr),x=.ref a/\y=.ref b/\H a=some (.dT (u.map fun p=>(kI p.1,wVK p.2)))/\H b=some (.dT (u.map fun p=>(kI p.1,wVK p.2)))/\k=true)\/eqD S d e=some k:=by
 unfold eqAny at h
 split at h
 · rename_i ka kb e1 e2
   left
   obtain ⟨l,rfl,g1⟩:=dKvs_inv e1
   obtain ⟨m,rfl,g2⟩:=dKvs_inv e2
   obtain ⟨a,i1,rfl⟩:=hd
   obtain ⟨b,i2,rfl⟩:=he
   obtain ⟨a',j1,_,ws,ha,rk⟩:=hH.obj l _ g1
   rw [i1] at j1;cases j1
   obtain ⟨b',j2,_,us,hb,rl⟩:=hH.obj m _ g2
   rw [i2] at j2;cases j2
   unfold eqK at h
   cases w1:wordsK ka with
   |none=>rw [w1] at h;cases h
   | some u =>
     cases w2:wordsK kb with
     |none=>rw [w1,w2] at h;cases h
     | some v =>
       rw [w1,w2] at h
       dsimp only [Option.bind_some] at h
       split at h
       · rename_i c
         subst c
         cases h
         rw [rk.words w1] at ha
         rw [rl.words w2] at hb
         exact ⟨u,a,b,rfl,rfl,ha,hb,rfl⟩
       · cases h
 · exact .inr h
theorem inAny_ex {K:PySem.W.Frag} {ι:List Addr} {H:Hp} {S:R.St} {d e:D} {x y:V} {k:Bool} (hH:RH K ι H S) (hd:RV K ι H d x) (he:RV K ι H e y) (h:inAny S d e=some k) :
  (∃a o,y=.ref a/\DGet H a x o/\k=o.isSome)\/((seqOf S e).bind fun ys=>inD S d ys)=some k:=by
 unfold inAny at h
 split at h
 · rename_i kvs e1
   left
   obtain ⟨l,rfl,g1⟩:=dKvs_inv e1
   obtain ⟨a,i1,rfl⟩:=he
   obtain ⟨a',j1,_,ws,ha,rk⟩:=hH.obj l _ g1
   rw [i1] at j1;cases j1
   cases ek:keyOf d with
   |none=>rw [ek] at h;cases h
   | some kk =>
     rw [ek] at h
     cases h
     obtain ⟨b,rfl,hb⟩:=key_ok' hd ek
     refine ⟨a,_,rfl,DGet.t ha hb,?_⟩
     rcases rk.val kk with ⟨e1,e2⟩|⟨d,v,e1,e2,_⟩
     · dsimp only;rw [e1,e2];rfl
     · dsimp only;rw [e1,e2];rfl
 · exact .inr h
end R
end
section
namespace R
open PySem PySem.Spec PyProof.Rows L2
variable [Mks]
noncomputable def Lf (K:PySem.W.Frag) (ι:List Addr) (H:Hp) (Q:D->R.St->Prop):VK:=fun v H'=>∃d ι' S',Ext ι H ι' H'/\RV K ι' H' d v/\RH K ι' H' S'/\Q d S'
section
variable {K:PySem.W.Frag} {ι ι':List Addr} {H H':Hp} {S S':R.St} {Q:D->R.St->Prop} {d:D} {v:V} {p:Addr}
theorem Lf.of (h:RH K ι H S) (r:RV K ι H d v) (q:Q d S):Lf K ι H Q v H:=⟨d,ι,S,Ext.refl ι H,r,h,q⟩
theorem Lf.up (x:Ext ι H ι' H') (h:Lf K ι' H' Q v p'):Lf K ι H Q v p':=by
 obtain ⟨d,ι2,S2,x2,r⟩:=h
 exact ⟨d,ι2,S2,x.trans x2,r⟩
theorem Lf.tup (h:RH K ι H S) (hp:H p=Option.none) {ds:List D} {xs:List V} (r:RVs K ι H ds xs) (q:Q (.tup ds) S):Lf K ι H Q (.ref p) (upd H p (.tup xs)):=
 ⟨.tup ds,ι,S,Ext.new hp _,⟨p,xs,rfl,upd_same,r.ext (Ext.new hp _)⟩,h.new hp _,q⟩
theorem Lf.lst (h:RH K ι H S) (hp:H p=Option.none) {ds:List D} {xs:List V} (r:RVs K ι H ds xs) (q:Q (.ref S.len) (S.push (.lst ds))):Lf K ι H Q (.ref p) (upd H p (.lst xs)):=
 ⟨.ref S.len,ι++[p],S.push (.lst ds),Ext.obj h hp _,⟨p,h.last p,rfl⟩,h.lay hp r,q⟩
theorem Lf.wr (h:RH K ι H S) {l:Nat} {a:Addr} {o:MO} {ds:List D} {xs:List V} (e:S.get l=some o) (hl:ι[l]?=some a) (w:S.put l (.lst ds)=some S') (r:RVs K ι H ds xs) (rv:RV K ι H d v) (q:Q d S'):Lf K ι H Q v (upd H a (.lst xs)):=
 ⟨d,ι,S',Ext.wr h e hl _,rv.ext (Ext.wr h e hl _),h.wr e hl w ⟨xs,upd_same,r.ext (Ext.wr h e hl _)⟩,q⟩
end
theorem lay_ex {S:R.St} {ds:List D} {Q:D->R.St->Prop} (h:W (lay S ds) Q):ds.length<=sizeLine/\Q (.ref S.len) (S.push (.lst ds)):=by
 unfold lay at h
 split at h
 · rename_i c;exact ⟨by rw [sizeLine_eq];exact c,h⟩
 · exact h.elim
theorem wr_ex {S:R.St} {l:Nat} {ds:List D} {d:D} {Q:D->R.St->Prop} (h:W (wr S l ds d) Q):ds.length<=sizeLine/\∃S',S.put l (.lst ds)=some S'/\Q d S':=by
 unfold wr at h
 split at h
 · rename_i c
   refine ⟨by rw [sizeLine_eq];exact c,?_⟩
   cases e:S.put l (.lst ds) with
   |none=>rw [e] at h;exact h.elim
   |some S'=>rw [e] at h;exact ⟨S',rfl,h⟩
 · exact h.elim
noncomputable def rD2 (K:PySem.W.Frag) (f:R.St->D->D->Out D):R2:=fun x y H Qv=>∃ι S d e Qd,RV K ι H d x/\RV K ι H e y/\RH K ι H S/\W (f S d e) Qd/\∀v H',Lf K ι H Qd v H'->Qv v H'
section
variable {X:Cx}
theorem cat_tup0 {prog:Program} {w:World} {A:Around} {E:Value->Shared->Prop} {s:Shared} {t b:Addr} {vs ws:List Value} {Q:Value->Shared->Prop} (ht:IsTup s.heap t vs.toArray) (hb:IsTup s.heap b ws.toArray) (hv:vs=[])
  (h1:Q (.ref b) s):wpAny (model prog w) A (binaryOp .Add (.ref t) (.ref b)) Q E s:=by
 obtain ⟨⟨cls,dd,data,sl⟩,ho,hc,n,hd⟩:=id ht
 obtain ⟨⟨cls2,dd2,data2,sl2⟩,ho2,hc2,n2,hd2⟩:=id hb
 simp only at hc hd hc2 hd2
 subst hc hd hc2 hd2
 exact concat_meets ⟨_,ho,rfl⟩ ⟨_,ho2,rfl⟩ noFill_tuple_add seq_tuple_add PySem.F.slot_tuple_add PySem.F.entry_tuple_add (PySem.F.args_tuple_add_2 _ _)
  (tuple_addW0 t b vs.toArray ws.toArray n n2 dd dd2 sl sl2 (by simp [hv])) ⟨ho,ho2,h1⟩
theorem op_catT0:OpR X (binaryOp .Add) (fun x y H Q=>∃a b ys,x=.ref a/\y=.ref b/\SqT X.K H a []/\SqT X.K H b ys/\Q (.ref b) H):=by
 intro pins s σ H x y v u Q I rx ry h
 obtain ⟨a,b,ys,rfl,rfl,ha,hb,q⟩:=h
 cases rx
 cases ry
 obtain ⟨its,r1,p1,_⟩:=I.tuple ha
 obtain ⟨its2,r2,p2,_⟩:=I.tuple hb
 exact cat_tup0 p1 p2 (r1.nil_iff.mpr rfl) ⟨.ref b,H,I,rfl,q⟩
theorem bin_ok (op:Operator):OpR X (binaryOp op) (rD2 X.K fun S d e=>binD S op d e):=by
 intro pins s σ H x y v u Qv I rx ry ⟨ι,S,d,e,Qd,hd,he,hH,hw,q⟩
 dsimp only at hw
 unfold binD at hw
 split at hw
 · rename_i i j
   obtain rfl:x=.int i:=hd
   obtain rfl:y=.int j:=he
   have fin:∀k:Int,Qd (.int k) S->Qv (.int k) H:=fun k hk=>q _ _ (Lf.of (d:=.int k) hH rfl hk)
   unfold binI at hw
   split at hw
   · exact op_add pins s σ H _ _ v u Qv I rx ry ⟨i,j,rfl,rfl,fin _ hw⟩
   · exact op_sub pins s σ H _ _ v u Qv I rx ry ⟨i,j,rfl,rfl,fin _ hw⟩
   · split at hw
     · rename_i c
       refine op_mul pins s σ H _ _ v u Qv I rx ry ⟨i,j,rfl,rfl,?_,fin _ hw⟩
       unfold mulOk at c
       rw [Bool.or_eq_true,decide_eq_true_eq,decide_eq_true_eq] at c
       exact c
     · exact hw.elim
   · split at hw
     · rename_i c
       exact op_fdiv pins s σ H _ _ v u Qv I rx ry ⟨i,j,rfl,rfl,c,fin _ hw⟩
     · exact hw.elim
   · split at hw
     · rename_i c
       exact op_mod pins s σ H _ _ v u Qv I rx ry ⟨i,j,rfl,rfl,c,fin _ hw⟩
     · exact hw.elim
   · split at hw
     · rename_i c
       exact op_pow pins s σ H _ _ v u Qv I rx ry ⟨i,j,rfl,rfl,⟨c.1,c.2.1,by omega⟩,fin _ hw⟩
     · exact hw.elim
   · exact hw.elim
 · rename_i xs ys
   split at hw
   · split at hw
     · rename_i c
       obtain ⟨a,us,rfl,ha,r1⟩:=hd
       obtain ⟨b,ws,rfl,hb,r2⟩:=he
       by_cases hn:us=[]
       · subst hn
         have hx:xs=[]:=by
          have:=r1.length
          simpa using this.symm
         subst hx
         refine op_catT0 pins s σ H _ _ v u Qv I rx ry ⟨a,b,ws,rfl,rfl,SqT.of ha,SqT.of hb,?_⟩
         exact q _ _ (Lf.of (d:=.tup ys) hH ⟨b,ws,rfl,hb,r2⟩ (by simpa using hw))
       · refine op_catT pins s σ H _ _ v u Qv I rx ry ⟨a,b,us,ws,rfl,rfl,SqT.of ha,SqT.of hb,hn,?_,fun hy=>?_,fun hy p hp=>?_⟩
         · rw [r1.length,r2.length,sizeLine_eq];exact c
         · subst hy
           have hx:ys=[]:=by
            have:=r2.length
            simpa using this.symm
           subst hx
           exact q _ _ (Lf.of (d:=.tup xs) hH ⟨a,us,rfl,ha,r1⟩ (by simpa using hw))
         · exact q _ _ (Lf.tup hH hp (r1.append r2) hw)
     · exact hw.elim
   · exact hw.elim
 · rename_i a b
   split at hw
   · rename_i xs ys e1 e2
     obtain ⟨a1,h1,rfl⟩:=hd
     obtain ⟨b1,h2,rfl⟩:=he
     obtain ⟨a2,h3,us,ha,r1⟩:=hH.obj _ _ e1
     obtain ⟨b2,h4,ws,hb,r2⟩:=hH.obj _ _ e2
     rw [h1] at h3;cases h3
     rw [h2] at h4;cases h4
     obtain ⟨z,hq⟩:=lay_ex hw
     refine op_cat pins s σ H _ _ v u Qv I rx ry ⟨a1,b1,us,ws,rfl,rfl,ha,hb,?_,fun p hp=>?_⟩
     · rw [r1.length,r2.length];rw [List.length_append] at z;exact z
     · exact q _ _ (Lf.lst hH hp (r1.append r2) hq)
   · exact hw.elim
 · exact hw.elim
theorem mapM_cons_some {α β:Type} {f:α->Option β} {x:α} {xs:List α} {ys:List β} (h:(x::xs).mapM f=some ys):∃y r,f x=some y/\xs.mapM f=some r/\ys=y::r:=by
 rw [List.mapM_cons] at h
 cases e:f x with
 |none=>rw [e] at h;cases h
 | some y =>
   rw [e] at h
   cases e2:xs.mapM f with
   |none=>rw [e2] at h;cases h
   |some r=>rw [e2] at h;injection h with h;exact ⟨y,r,rfl,rfl,h.symm⟩
theorem pd_ok {ι:List Addr} {H:Hp} {S:R.St} (hH:RH X.K ι H S):∀(n:Nat) (d:D) (pdd:PyData) (v:V),pd S n d=some pdd->RV X.K ι H d v->Rep H pdd v/\pdd.canLay0=true/\pdd.depth<=n:=by
 intro n
 induction n with
 | zero =>
   intro d p v h r
   cases d<;>simp only [pd] at h
   · cases h;exact ⟨r,rfl,Nat.le_refl _⟩
   · cases h;exact ⟨r,rfl,Nat.le_refl _⟩
   · cases h;exact ⟨r,rfl,Nat.le_refl _⟩
   · split at h
     · rename_i c;cases h;exact ⟨r,c,Nat.le_refl _⟩
     · cases h
   all_goals cases h
 | succ n ih =>
   have all:∀(ds:List D) (ps:List PyData) (vs:List V),ds.mapM (pd S n)=some ps->RVs X.K ι H ds vs->RepAll H ps vs/\PyData.canLayAll0 ps=true/\PyData.depthAll ps<=n:=by
    intro ds
    induction ds with
    | nil =>
      intro ps vs h r
      have h:ps=[]:=by simpa using h.symm
      subst h
      exact ⟨r,rfl,Nat.zero_le _⟩
    | cons d ds ihd =>
      intro ps vs h r
      obtain ⟨y,rr,h1,h2,rfl⟩:=mapM_cons_some h
      obtain ⟨v,w,rfl,r1,r2⟩:=r
      obtain ⟨a1,a2,a3⟩:=ih d y v h1 r1
      obtain ⟨b1,b2,b3⟩:=ihd rr w h2 r2
      refine ⟨⟨v,w,rfl,a1,b1⟩,by simp [PyData.canLayAll0,a2,b2],?_⟩
      simp only [PyData.depthAll]
      omega
   intro d p v h r
   cases d with
   |non=>simp only [pd] at h;cases h;exact ⟨r,rfl,Nat.zero_le _⟩
   |bl b=>simp only [pd] at h;cases h;exact ⟨r,rfl,Nat.zero_le _⟩
   |int i=>simp only [pd] at h;cases h;exact ⟨r,rfl,Nat.zero_le _⟩
   | str x =>
     simp only [pd] at h
     split at h
     · rename_i c;cases h;exact ⟨r,c,Nat.zero_le _⟩
     · cases h
   | tup ds =>
     simp only [pd] at h
     cases e:ds.mapM (pd S n) with
     |none=>rw [e] at h;cases h
     | some ps =>
       rw [e] at h
       have h:PyData.tuple ps=p:=by simpa using h
       subst h
       obtain ⟨a,xs,rfl,ha,rr⟩:=r
       obtain ⟨b1,b2,b3⟩:=all ds ps xs e rr
       refine ⟨⟨a,xs,rfl,ha,b1⟩,by simp [PyData.canLay0,b2],?_⟩
       simp only [PyData.depth]
       omega
   | ref l =>
     simp only [pd] at h
     split at h
     · rename_i ds eg
       cases e:ds.mapM (pd S n) with
       |none=>rw [e] at h;cases h
       | some ps =>
         rw [e] at h
         have h:PyData.list ps=p:=by simpa using h
         subst h
         obtain ⟨a,h1,rfl⟩:=r
         obtain ⟨a2,h2,xs,ha,rr⟩:=hH.obj _ _ eg
         rw [h1] at h2;cases h2
         obtain ⟨b1,b2,b3⟩:=all ds ps xs e rr
         refine ⟨⟨a,xs,rfl,ha,b1⟩,by simp [PyData.canLay0,b2],?_⟩
         simp only [PyData.depth]
         omega
     · cases h
   |fix ds=>simp only [pd] at h;cases h
noncomputable def rC2 (K:PySem.W.Frag) (op:CmpOp):R2:=fun x y H Qv=>∃ι S d e k,RV K ι H d x/\RV K ι H e y/\RH K ι H S/\cmpD S op d e=some k/\Qv (.bl k) H
theorem eqD_ex {S:R.St} {d e:D} {k:Bool} (h:eqD S d e=some k):∃a b,pd S 60 d=some a/\pd S 60 e=some b/\k=PyData.eqv a b:=by
 unfold eqD at h
 cases e1:pd S 60 d with
 |none=>rw [e1] at h;cases h
 | some a =>
   rw [e1] at h
   cases e2:pd S 60 e with
   |none=>rw [e2] at h;cases h
   |some b=>rw [e2] at h;injection h with h;exact ⟨a,b,rfl,rfl,h.symm⟩
open Classical in
noncomputable def eqRd (h:Heap) (p:PyData) (u:Value):Bool:=if c:∃q as,Reads h u q as/\q.canLay0=true then PyData.eqv c.choose p else false
theorem eqRd_of {h:Heap} {p q:PyData} {u:Value} {as:List Addr} (r:Reads h u q as) (c:q.canLay0=true):eqRd h p u=PyData.eqv q p:=by
 have ex:∃q as,Reads h u q as/\q.canLay0=true:=⟨q,as,r,c⟩
 unfold eqRd
 rw [dif_pos ex]
 obtain ⟨as',r',c'⟩:=ex.choose_spec
 rw [SeqAt.Reads.unique _ _ _ _ _ c r r']
theorem in_reads {ι:List Addr} {H:Hp} {S:R.St} {pins:List (Addr × Obj)} {σ:L2.St} {s:Shared} {A:Around} (I:Inv X pins σ H s) (hA:A.units+62<cLine) (hH:RH X.K ι H S) {x:D} {px:PyData} {vx:V} {ux:Value} (hx:pd S 60 x=some px) (rx:RV X.K ι H x vx) (qx:RelV vx ux) :
  ∀{ds:List D} {vs:List V} {us:List Value} {bs:List Bool},RVs X.K ι H ds vs->Vals vs us->ds.mapM (fun z=>eqD S z x)=some bs->us.any (eqRd s.heap px)=bs.any id/\∀u∈us,SeqAt.EqAt A s u ux (eqRd s.heap px u):=by
 obtain ⟨x1,x2,x3⟩:=pd_ok hH 60 x px vx hx rx
 obtain ⟨asx,rdx⟩:=Rep.reads I px vx ux x1 qx
 intro ds
 induction ds with
 | nil =>
   intro vs us bs r rv h
   cases (show vs=[] from r)
   cases rv
   have h:bs=[]:=by simpa using h.symm
   subst h
   exact ⟨rfl,fun u hu=>nomatch hu⟩
 | cons d ds ih =>
   intro vs us bs r rv h
   obtain ⟨v,w,rfl,r1,r2⟩:=r
   obtain ⟨b,rr,e,h2,rfl⟩:=mapM_cons_some h
   cases rv with
   | cons q1 q2 =>
     rename_i u us'
     obtain ⟨a,b',e1,e2,rfl⟩:=eqD_ex e
     rw [hx] at e2;cases e2
     obtain ⟨p1,p2,p3⟩:=pd_ok hH 60 d a v e1 r1
     obtain ⟨as,rd⟩:=Rep.reads I a v u p1 q1
     have hq:=eqRd_of (p:=px) rd p2
     obtain ⟨i1,i2⟩:=ih r2 q2 h2
     refine ⟨by simp [hq,i1],fun z hz=>?_⟩
     rcases List.mem_cons.mp hz with rfl|hz
     · rw [hq]
       exact SeqAt.eqAt_reads a px A s z ux as asx rd rdx p2 x2 (by omega)
     · exact i2 z hz
theorem seq_ok {ι:List Addr} {H:Hp} {S:R.St} (hH:RH X.K ι H S) {d:D} {v:V} {ds:List D} (h:seqOf S d=some ds) (r:RV X.K ι H d v):∃a xs,v=.ref a/\(SqL X.K H a xs\/SqT X.K H a xs)/\RVs X.K ι H ds xs:=by
 cases d with
 | tup es =>
   cases h
   obtain ⟨a,xs,rfl,ha,rr⟩:=r
   exact ⟨a,xs,rfl,.inr (SqT.of ha),rr⟩
 | fix es =>
   cases h
   obtain ⟨a,xs,rfl,ha,rr⟩:=r
   exact ⟨a,xs,rfl,.inl ha.sq,rr⟩
 | ref l =>
   simp only [seqOf] at h
   split at h
   · rename_i ds' e
     cases h
     obtain ⟨a,h1,rfl⟩:=r
     obtain ⟨a2,h2,xs,ha,rr⟩:=hH.obj _ _ e
     rw [h1] at h2;cases h2
     exact ⟨a,xs,rfl,.inl (SqL.of ha),rr⟩
   · cases h
 |_=>cases h
theorem inD_ex {S:R.St} {x:D} {ys:List D} {k:Bool} (h:inD S x ys=some k):∃bs,ys.mapM (fun z=>eqD S z x)=some bs/\k=bs.any id:=by
 unfold inD at h
 cases e:ys.mapM (fun z=>eqD S z x) with
 |none=>rw [e] at h;cases h
 |some bs=>rw [e] at h;injection h with h;exact ⟨bs,rfl,h.symm⟩
theorem lexLt_eq:∀(as bs:List Int),R.lexLt as bs=HT.lexLt as bs
 | [],[]=>by simp [R.lexLt,HT.lexLt]
 | [],_::_=>by simp [R.lexLt,HT.lexLt]
 |_::_,[]=>by simp [R.lexLt,HT.lexLt]
 |a::as,b::bs=>by simp [R.lexLt,HT.lexLt,lexLt_eq as bs]
theorem nonV {K:PySem.W.Frag} {ι:List Addr} {H:Hp} {d:D} {x:V} (hd:RV K ι H d x):decide (x=V.non)=isNon d:=by
 cases d with
 |non=>rw [show x=.non from hd];rfl
 |bl b=>rw [show x=.bl b from hd];rfl
 |int b=>rw [show x=.int b from hd];rfl
 |str b=>rw [show x=.str b from hd];rfl
 |tup b=>obtain ⟨_,_,rfl,_⟩:=hd;rfl
 |ref b=>obtain ⟨_,_,rfl⟩:=hd;rfl
 |fix b=>obtain ⟨_,_,rfl,_⟩:=hd;rfl
theorem cmp_ok (hu:X.A.units+128<cLine) (op:CmpOp):OpR X (compareOp op) (rC2 X.K op):=by
 intro pins s σ H x y v u Qv I rx ry ⟨ι,S,d,e,k,hd,he,hH,hc,q⟩
 unfold cmpD at hc
 split at hc
 · rename_i i j
   obtain rfl:x=.int i:=hd
   obtain rfl:y=.int j:=he
   unfold cmpI at hc
   split at hc
   · cases hc;exact op_eq pins s σ H _ _ v u Qv I rx ry ⟨rfl,by simpa using q⟩
   · cases hc;exact op_ne pins s σ H _ _ v u Qv I rx ry ⟨rfl,by simpa using q⟩
   · cases hc;exact op_lt pins s σ H _ _ v u Qv I rx ry ⟨i,j,rfl,rfl,q⟩
   · cases hc;exact op_le pins s σ H _ _ v u Qv I rx ry ⟨i,j,rfl,rfl,q⟩
   · cases hc;exact op_gt pins s σ H _ _ v u Qv I rx ry ⟨i,j,rfl,rfl,q⟩
   · cases hc;exact op_ge pins s σ H _ _ v u Qv I rx ry ⟨i,j,rfl,rfl,q⟩
   · cases hc
 · unfold cmpO at hc
   have isin:∀(k:Bool),((seqOf S e).bind fun ys=>inD S d ys)=some k->∃a xs,y=.ref a/\(SqL X.K H a xs\/SqT X.K H a xs)/\∃(px:PyData),∀us,Vals xs us->us.any (eqRd s.heap px)=k/\∀z∈us,SeqAt.EqAt X.A.in1 s z v (eqRd s.heap px z):=by
    intro k h
    cases es:seqOf S e with
    |none=>rw [es] at h;cases h
    | some ys =>
      rw [es] at h
      obtain ⟨bs,hb,rfl⟩:=inD_ex (show inD S d ys=some k from h)
      obtain ⟨a,xs,rfl,hq,rr⟩:=seq_ok hH es he
      refine ⟨a,xs,rfl,hq,?_⟩
      cases hp:pd S 60 d with
      |some px=>exact ⟨px,fun us hus=>in_reads I (show X.A.units+1+62<cLine by omega) hH hp hd rx rr hus hb⟩
      | none =>
        cases ys with
        | nil =>
          refine ⟨.none,fun us hus=>?_⟩
          cases (show xs=[] from rr)
          cases hus
          have hb:bs=[]:=by simpa using hb.symm
          subst hb
          exact ⟨rfl,fun z hz=>nomatch hz⟩
        | cons z zs =>
          obtain ⟨b,r,h1,_⟩:=mapM_cons_some hb
          obtain ⟨_,_,_,h3,_⟩:=eqD_ex h1
          rw [hp] at h3;cases h3
   split at hc
   · rcases eqAny_ex hH hd he hc with ⟨us,a,b,rfl,rfl,ha,hb,rfl⟩|hc
     · cases (show v=Value.ref a from rx)
       cases (show u=Value.ref b from ry)
       exact dT_eq (by omega) I ha hb ⟨.bl true,H,I,rfl,q⟩
     obtain ⟨a,b,h1,h2,rfl⟩:=eqD_ex hc
     obtain ⟨p1,p2,p3⟩:=pd_ok hH 60 d a x h1 hd
     obtain ⟨q1,q2,q3⟩:=pd_ok hH 60 e b y h2 he
     exact op_eqD (by omega) pins s σ H x y v u Qv I rx ry ⟨a,b,p1,q1,p2,q2,by omega,q⟩
   · cases hk:eqAny S d e with
     |none=>rw [hk] at hc;cases hc
     | some k' =>
       rw [hk] at hc
       rcases eqAny_ex hH hd he hk with ⟨us,a,b,rfl,rfl,ha,hb,rfl⟩|hk
       · cases (show v=Value.ref a from rx)
         cases (show u=Value.ref b from ry)
         have hc:k=false:=by simpa using hc.symm
         subst hc
         exact dT_ne (by omega) I ha hb ⟨.bl false,H,I,rfl,q⟩
       obtain ⟨a,b,h1,h2,rfl⟩:=eqD_ex hk
       obtain ⟨p1,p2,p3⟩:=pd_ok hH 60 d a x h1 hd
       obtain ⟨q1,q2,q3⟩:=pd_ok hH 60 e b y h2 he
       have hc:k = !PyData.eqv a b:=by simpa using hc.symm
       subst hc
       exact op_neD (by omega) pins s σ H x y v u Qv I rx ry ⟨a,b,p1,q1,p2,q2,by omega,q⟩
   · split at hc
     · obtain rfl:y=.non:=he
       cases hc
       obtain rfl:u=Value.none:=ry
       refine is_none_gen ⟨.bl _,H,I,rfl,?_⟩
       rw [rx.none_iff,nonV hd];exact q
     · rename_i b _
       split at hc
       · rename_i a _
         cases hc
         exact op_isB pins s σ H _ _ v u Qv I rx ry ⟨a,b,hd,he,q⟩
       · cases hc
     · cases hc
   · split at hc
     · obtain rfl:y=.non:=he
       cases hc
       obtain rfl:u=Value.none:=ry
       refine isnot_none_gen ⟨.bl _,H,I,rfl,?_⟩
       rw [rx.none_iff,nonV hd];exact q
     · cases hc
   · rcases inAny_ex hH hd he hc with ⟨a,o,rfl,g,rfl⟩|hc
     · cases (show u=Value.ref a from ry)
       exact d_in (by omega) I g rx fun s3 I3=>⟨.bl o.isSome,H,I3,rfl,q⟩
     obtain ⟨a,xs,rfl,hq,px,hp⟩:=isin _ hc
     cases (show u=Value.ref a from ry)
     rcases hq with hq|hq
     · obtain ⟨its,r,pl,hz⟩:=I.list hq
       obtain ⟨h1,h2⟩:=hp its r
       exact SeqAt.in_listAt (eqRd s.heap px) pl.isList (fun w hw=>h2 w (by simpa using hw)) (fin_bl I q (by simpa using h1.symm))
     · obtain ⟨its,r,pl,hz⟩:=I.tuple hq
       obtain ⟨h1,h2⟩:=hp its r
       exact SeqAt.in_tupleAt (eqRd s.heap px) pl (fun w hw=>h2 w (by simpa using hw)) (fin_bl I q (by simpa using h1.symm))
   · cases hk:inAny S d e with
     |none=>rw [hk] at hc;cases hc
     | some k' =>
       rw [hk] at hc
       have hc:k = !k':=by simpa using hc.symm
       subst hc
       rcases inAny_ex hH hd he hk with ⟨a,o,rfl,g,rfl⟩|hk
       · cases (show u=Value.ref a from ry)
         exact d_notIn (by omega) I g rx fun s3 I3=>⟨.bl (!o.isSome),H,I3,rfl,q⟩
       obtain ⟨a,xs,rfl,hq,px,hp⟩:=isin k' hk
       cases (show u=Value.ref a from ry)
       rcases hq with hq|hq
       · obtain ⟨its,r,pl,hz⟩:=I.list hq
         obtain ⟨h1,h2⟩:=hp its r
         exact SeqAt.notIn_listAt (eqRd s.heap px) pl.isList (fun w hw=>h2 w (by simpa using hw)) (fin_bl I q (by simpa using congrArg (!·) h1.symm))
       · obtain ⟨its,r,pl,hz⟩:=I.tuple hq
         obtain ⟨h1,h2⟩:=hp its r
         exact SeqAt.notIn_tupleAt (eqRd s.heap px) pl (fun w hw=>h2 w (by simpa using hw)) (fin_bl I q (by simpa using congrArg (!·) h1.symm))
   · split at hc
     · rename_i xs ys _
       cases e1:intsOf xs with
       |none=>rw [e1] at hc;cases hc
       | some ns =>
         cases e2:intsOf ys with
         |none=>rw [e1,e2] at hc;cases hc
         | some ms =>
           rw [e1,e2] at hc
           have hc:k=lexLt ns ms:=by simpa using hc.symm
           subst hc
           obtain ⟨a,us,rfl,ha,r1⟩:=hd
           obtain ⟨b,ws,rfl,hb,r2⟩:=he
           rw [ints_map e1] at r1
           rw [ints_map e2] at r2
           rw [r1.ints_eq] at ha
           rw [r2.ints_eq] at hb
           exact op_ltT (by omega) pins s σ H _ _ v u Qv I rx ry ⟨a,b,ns,ms,rfl,rfl,SqT.of ha,SqT.of hb,by rw [<-lexLt_eq];exact q⟩
     · cases hc
   · cases hc
end
end R
end
section
namespace R
open PySem PySem.Spec PyProof.Rows L2
variable [Mks]
noncomputable def noStar:Expr->Bool|.Starred _ _=>false|_=>true
noncomputable def notComp:Expr->Bool|.ListComp ..=>false|.SetComp ..=>false|.DictComp ..=>false|_=>true
noncomputable def notSlice:Expr->Bool|.Slice ..=>false|_=>true
noncomputable def notSet:Expr->Bool|.Set ..=>false|_=>true
noncomputable def notSup:Expr->Bool|.Call (.Name _ _) [] [] _=>false|_=>true
noncomputable def plainT:Expr->Bool|.UnaryOp .Not _ _=>false|.BoolOp ..=>false|.IfExp ..=>false|.Compare ..=>false|_=>true
noncomputable def notTup:Expr->Bool|.Tuple ..=>false|_=>true
theorem star_of {e:Expr} (h:noStar e=true) (es:List Expr) (env:Env):starEach (e::es) env=(false,eval e env)::starEach es env:=by
 cases e<;>first|rfl|cases h
theorem swap_of {e:Expr} (h:notComp e=true) (t:Option Expr) (l:Nat) (env:Env):swapsWith e t l env=pure false:=by
 cases e<;>first|rfl|cases h
theorem ix_of {e:Expr} (h:notSlice e=true):PlainIx e:=by
 intro o i
 cases e<;>first|rfl|cases h
theorem mark_of {e:Expr} (h:notSet e=true) (op:CmpOp):behindInMarks op e=false:=by
 cases e<;>first|rfl|cases h
theorem sup_of {e:Expr} (h:notSup e=true) (x:Str) (env:Env) (w:Sem Value):attributeBase e x env w=w:=by
 unfold attributeBase
 split
 · cases h
 · rfl
theorem tru_of {e:Expr} (h:plainT e=true) (env:Env) (w:Sem Value):isTrue e env w=(do let v <-w;standAt e.pos;holding [v] (truthy v)):=by
 cases e with
 |UnaryOp op x p=>cases op<;>first|rfl|cases h
 |_=>first|rfl|cases h
theorem fold_of {e:Expr} (h:notSet e=true) (env:Env) (x:Value):foldedSetIterable e env x=pure x:=by
 cases e<;>first|rfl|cases h
theorem stars_any {pos:Pos} {env:Env}:∀{es:List Expr},es.all noStar=true->(backTo pos (starEach es env)).any (·.1)=false
 | [],_=>rfl
 | e :: es, h => by
   rw [List.all_cons,Bool.and_eq_true] at h
   rw [star_of h.1]
   exact stars_any (es:=es) h.2
structure Tab where
 blt:List Str
 cons:List (Str × D)
 fns:List (Str × List Str × Nat)
 cls:List Str:=[]
 flds:List Str:=[]
 mts:List (Nat × Str × Nat):=[]
 inits:List (Nat × Nat):=[]
 cms:List (Str × Str × Nat):=[]
 isas:List (Str × List Nat):=[]
noncomputable def isVis (sc:Scope) (x:Str):Bool:=match sc.names.lookup x with|some .local=>true|some .cell=>true|some .free=>true|_=>false
noncomputable def isLoc (sc:Scope) (x:Str):Bool:=match sc.names.lookup x with|some .local=>true|some .cell=>true|_=>false
noncomputable def isGl (sc:Scope) (x:Str):Bool:=match sc.names.lookup x with|some .globalImplicit=>true|_=>false
noncomputable def eqC:D->D->Bool
 |.non,.non=>true|.bl a,.bl b=>a == b|.int a,.int b=>a == b|.str a,.str b=>a == b|_,_=>false
theorem eqC_eq:∀{d e:D},eqC d e=true->d=e:=by
 intro d e h
 cases d<;>cases e<;>first|rfl|(simp only [eqC,beq_iff_eq] at h;subst h;rfl)|cases h
noncomputable def sV:D->V
 |.non=>.non|.bl b=>.bl b|.int i=>.int i|.str x=>.str x|_=>.non
noncomputable def scalD:D->Bool
 |.non=>true|.bl _=>true|.int _=>true|.str _=>true|_=>false
theorem sV_ok {K:PySem.W.Frag} {ι:List Addr} {H:Hp} {d:D} (h:scalD d=true):RV K ι H d (sV d):=by
 cases d<;>first|rfl|cases h
noncomputable def conB:D->Const->Bool
 |.non,.none=>true|.bl a,.bool b=>a == b|.int a,.int b=>a == b|.str a,.str b=>a == b|_,_=>false
noncomputable def bltB (T:Tab) (sc:Scope) (x:Str):Bool:=isGl sc x&&T.blt.contains x
noncomputable def spF (K:PySem.W.Frag) (cf:CF) (f:Nat):Sp:=fun vs H Qv _=>∃ι S ds,RVs K ι H ds vs/\RH K ι H S/\W (cf f ds S) (fun d T=>∀v H' ι',Ext ι H ι' H'->RV K ι' H' d v->RH K ι' H' T->Qv v H')
structure HasM (P:Program) (w:World) (K:PySem.W.Frag) (mg:Str->Option Value) (base:Heap) (k c:Nat) (m:Str) (sp:Sp):Prop where
 ex:∃(C fa:Addr) (fd:FuncData) (ps:List Str),Mks.cl[c]?=some C/\Cls K C/\Meth K C m fa/\FnOk P w K mg base CX0 k fa fd ps sp/\Binds K fd ps []
structure HasI (P:Program) (w:World) (K:PySem.W.Frag) (mg:Str->Option Value) (base:Heap) (k c:Nat) (sp:Sp):Prop where
 ex:∃(C fa:Addr) (fd:FuncData) (ps:List Str),Mks.cl[c]?=some C/\Mk K C fa/\FnOk P w K mg base CX0 k fa fd ps sp/\Binds K fd ps []
structure HasC (P:Program) (w:World) (K:PySem.W.Frag) (mg:Str->Option Value) (base:Heap) (k:Nat) (x m:Str) (sp:Sp):Prop where
 ex:∃(C fa:Addr) (fd:FuncData) (ps:List Str) (mc:Value),mg x=some (.ref C)/\PySem.W.specialIn K (.ref C) "__getattribute__"=some (some (.builtin "type.__getattribute__"))/\PySem.W.readsIn K C mc=true/\PySem.W.findCls K (.ref C) mc m=some (.val (.ref fa))/\
  PySem.W.keepIn K (.ref fa)=true/\FnOk P w K mg base CX0 k fa fd ps sp/\Binds K fd ps []
structure IsaOk (K:PySem.W.Frag) (C:Addr):Prop where
 ha:PySem.W.findIn K (.ref C) "__class__"=some (some (.builtin "object.__class__"))
 hn:PySem.W.specialIn K (.builtin "object.__class__") "__get__"=some (some (.builtin "getset_descriptor.__get__"))
 ht:PySem.W.takesIn K (.builtin "object.__class__")=some true
 hm:PySem.W.mroIn K C (.type "object")=some true
structure TabOk (T:Tab) (cf:CF) (k:Nat) (P:Program) (w:World) (K:PySem.W.Frag) (mg:Str->Option Value) (base:Heap):Prop where
 blt:∀x,T.blt.contains x=true->mg x=none
 con:∀x d,T.cons.lookup x=some d->scalD d=true/\∃u,mg x=some u/\RelV (sV d) u
 fns:∀f x ps nd,T.fns[f]?=some (x,ps,nd)->∀j,j<=nd->Has P w K mg base k x ps (List.replicate j .non) (spF K cf f)
 frm:CFok cf
 cls:∀(c:Nat) (x:Str),T.cls[c]?=some x->∃C,Mks.cl[c]?=some C/\Cls K C/\mg x=some (.ref C)/\∀f,T.flds.contains f=true->NoAttr K C f
 mth:∀(c:Nat) (m:Str) (fi:Nat),T.mts.contains (c,m,fi)=true->HasM P w K mg base k c m (spF K cf fi)
 ini:∀(c fi:Nat),T.inits.contains (c,fi)=true->HasI P w K mg base k c (spF K cf fi)
 cmd:∀(x m:Str) (fi:Nat),T.cms.contains (x,m,fi)=true->HasC P w K mg base k x m (spF K cf fi)
 cln:(T.flds≠[]\/T.inits≠[]\/T.isas≠[])->Mks.cl.length<=T.cls.length
 isa:∀(x:Str) (cs:List Nat),T.isas.contains (x,cs)=true->∃D,mg x=some (.ref D)/\∀c C,Mks.cl[c]?=some C->IsaOk K C/\PySem.W.kitOne K (.ref C) (.ref D)=some (cs.contains c)
structure Gd (T:Tab) (cf:CF) (k:Nat) (N:List Str) (sc:Scope) (X:Cx):Prop where
 nm:X.N=N
 nd:N.Nodup
 loc:∀x,sc.names.lookup x=some .local->X.env.scope.names.lookup x=some .local
 cell:∀x,sc.names.lookup x=some .cell->X.env.scope.names.lookup x=some .cell
 free:∀x,sc.names.lookup x=some .free->X.env.scope.names.lookup x=some .free\/X.env.scope.names.lookup x=some .cell
 glob:∀x,sc.names.lookup x=some .globalImplicit->X.env.scope.names.lookup x=some .globalImplicit
 fn:(∀x,X.fn x=true)\/∀x,sc.names.lookup x≠some .cell
 calm:X.calm=true
 xe:X.xe=fun _ _=>False
 room':Room (k+1) X.A
 tab:TabOk T cf k X.prog X.w X.K X.mg X.base
section
variable {T:Tab} {cf:CF} {k:Nat} {N:List Str} {sc:Scope} {X:Cx}
theorem Gd.room (G:Gd T cf k N sc X):Room k X.A:=G.room'.mono (Nat.le_succ k)
theorem Gd.hu (G:Gd T cf k N sc X):X.A.units+128<cLine:=by have:=G.room.un;omega
theorem Gd.vis (G:Gd T cf k N sc X) {x:Str} (h:isVis sc x=true):Vis X.env.scope x:=by
 unfold isVis at h
 split at h
 · rename_i e;exact .inl (G.loc x e)
 · rename_i e;exact .inr (.inl (G.cell x e))
 · rename_i e
   rcases G.free x e with q|q
   · exact .inr (.inr q)
   · exact .inr (.inl q)
 · cases h
theorem Gd.lc (G:Gd T cf k N sc X) {x:Str} (h:isLoc sc x=true):Loc X.env.scope x/\(X.fn x=true\/X.env.scope.names.lookup x=some .local):=by
 unfold isLoc at h
 split at h
 · rename_i e;exact ⟨.inl (G.loc x e),.inr (G.loc x e)⟩
 · rename_i e
   refine ⟨.inr (G.cell x e),?_⟩
   rcases G.fn with q|q
   · exact .inl (q x)
   · exact absurd e (q x)
 · cases h
theorem Gd.gl (G:Gd T cf k N sc X) {x:Str} (h:isGl sc x=true):Gl X x:=by
 unfold isGl at h
 split at h
 · rename_i e;exact G.glob x e
 · cases h
end
noncomputable def RS (K:PySem.W.Frag) (ι:List Addr) (H:Hp) (δ:Ev) (σ:L2.St):Prop:=δ.length=σ.length/\∀(i:Nat) (d:D),δ[i]?=some (some d)->∃v,σ[i]?=some (some v)/\RV K ι H d v
theorem RS.ext {K:PySem.W.Frag} {ι ι':List Addr} {H H':Hp} {δ:Ev} {σ:L2.St} (h:RS K ι H δ σ) (x:Ext ι H ι' H'):RS K ι' H' δ σ:=
 ⟨h.1,fun i d e=>let ⟨v,e1,r⟩:=h.2 i d e;⟨v,e1,r.ext x⟩⟩
theorem RS.set {K:PySem.W.Frag} {ι:List Addr} {H:Hp} {δ:Ev} {σ:L2.St} (h:RS K ι H δ σ) {d:D} {v:V} (r:RV K ι H d v) (i:Nat):RS K ι H (δ.set i (some d)) (σ.set i (some v)):=by
 refine ⟨by simp [h.1],fun j e hj=>?_⟩
 by_cases hij:i=j
 · subst hij
   have hl:i<δ.length:=by
    have:=(List.getElem?_eq_some_iff.mp hj).1
    simpa using this
   rw [List.getElem?_set_self hl] at hj
   cases hj
   exact ⟨v,List.getElem?_set_self (by rw [<-h.1];exact hl),r⟩
 · rw [List.getElem?_set_ne hij] at hj
   obtain ⟨v',e1,r'⟩:=h.2 j e hj
   exact ⟨v',by rw [List.getElem?_set_ne hij];exact e1,r'⟩
noncomputable def tE (K:PySem.W.Frag) (cf:CF) (ce:CE):TE:=fun σ H Qv=>∃δ ι S Q,RS K ι H δ σ/\RH K ι H S/\W (evE cf ce δ S) Q/\∀v H',Lf K ι H Q v H'->Qv v H'
noncomputable def LfB (K:PySem.W.Frag) (ι:List Addr) (H:Hp) (Q:Bool->R.St->Prop):Bool->Hp->Prop:=fun b H'=>∃ι' S',Ext ι H ι' H'/\RH K ι' H' S'/\Q b S'
noncomputable def tT (K:PySem.W.Frag) (cf:CF) (ce:CE):TT:=fun σ H Qv=>∃δ ι S Q,RS K ι H δ σ/\RH K ι H S/\W (evT cf ce δ S) Q/\∀b H',LfB K ι H Q b H'->Qv b H'
noncomputable def LfA (K:PySem.W.Frag) (ι:List Addr) (H:Hp) (Q:List D->R.St->Prop):List V->Hp->Prop:=fun vs H'=>∃ds ι' S',Ext ι H ι' H'/\RVs K ι' H' ds vs/\RH K ι' H' S'/\Q ds S'
noncomputable def tAs (K:PySem.W.Frag) (cf:CF) (ces:CEs):TA:=fun σ H Qv=>∃δ ι S Q,RS K ι H δ σ/\RH K ι H S/\W (evEs cf ces δ S) Q/\∀vs H',LfA K ι H Q vs H'->Qv vs H'
inductive SqK (K:PySem.W.Frag) (ι:List Addr) (H:Hp) (S:R.St) (a:Addr) (xs:List V) (ds:List D) (lks:List Nat):Prop where
 |tmp (h:a∉ι) (e:H a=some (.lst xs)):SqK K ι H S a xs ds lks
 |tup (e:H a=some (.tup xs)):SqK K ι H S a xs ds lks
 |fix (e:FixL K H a xs):SqK K ι H S a xs ds lks
 |own (l:Nat) (hl:l∈lks) (hi:ι[l]?=some a) (hs:S.get l=some (.lst ds)) (e:H a=some (.lst xs)):SqK K ι H S a xs ds lks
noncomputable def Sq (K:PySem.W.Frag) (ι:List Addr) (H:Hp) (S:R.St) (v:V) (ds:List D) (lks:List Nat):Prop:=∃a xs,v=.ref a/\RVs K ι H ds xs/\SqK K ι H S a xs ds lks
noncomputable def LfL (K:PySem.W.Frag) (ι:List Addr) (H:Hp) (Q:List D × List Nat->R.St->Prop):VK:=fun v H'=>∃ds lks ι' S',Ext ι H ι' H'/\Sq K ι' H' S' v ds lks/\RH K ι' H' S'/\Q (ds,lks) S'
noncomputable def tL (K:PySem.W.Frag) (cf:CF) (cl:CL):TE:=fun σ H Qv=>∃δ ι S Q,RS K ι H δ σ/\RH K ι H S/\W (evL cf cl δ S) Q/\∀v H',LfL K ι H Q v H'->Qv v H'
noncomputable def LfT (K:PySem.W.Frag) (ι:List Addr) (H:Hp) (Q:List D × List Nat->R.St->Prop):VK:=fun v H'=>∃ds ι' S' a xs,Ext ι H ι' H'/\v=.ref a/\RVs K ι' H' ds xs/\a∉ι'/\H' a=some (.lst xs)/\RH K ι' H' S'/\H a=none/\Q (ds,[]) S'
noncomputable def tLt (K:PySem.W.Frag) (cf:CF) (cl:CL):TE:=fun σ H Qv=>∃δ ι S Q,RS K ι H δ σ/\RH K ι H S/\W (evL cf cl δ S) Q/\∀v H',LfT K ι H Q v H'->Qv v H'
theorem LfT.l {K:PySem.W.Frag} {ι:List Addr} {H:Hp} {Q:List D × List Nat->R.St->Prop} {v:V} {H':Hp} (h:LfT K ι H Q v H'):LfL K ι H Q v H':=by
 obtain ⟨ds,ι',S',a,xs,x,rfl,r,ha,e,hh,_,q⟩:=h
 exact ⟨ds,[],ι',S',x,⟨a,xs,rfl,r,.tmp ha e⟩,hh,q⟩
theorem PE.imp {X:Cx} {e:Expr} {t t':TE} (h:PE X e t) (i:∀σ H Q,t' σ H Q->t σ H Q):PE X e t':=fun pins s σ H Q I q=>h pins s σ H Q I (i σ H Q q)
theorem PT.imp {X:Cx} {e:Expr} {t t':TT} (h:PT X e t) (i:∀σ H Q,t' σ H Q->t σ H Q):PT X e t':=fun pins s σ H Q I q=>h pins s σ H Q I (i σ H Q q)
theorem PW.imp {X:Cx} {e:Expr} {t t':TT} (h:PW X e t) (i:∀σ H Q,t' σ H Q->t σ H Q):PW X e t':=fun wh pins s σ H Q I q=>h wh pins s σ H Q I (i σ H Q q)
theorem PA.imp {X:Cx} {es:List Expr} {t t':TA} (h:PA X es t) (i:∀σ H Q,t' σ H Q->t σ H Q):PA X es t':=fun pos pins s σ H Q I q=>h pos pins s σ H Q I (i σ H Q q)
theorem tE.run {K:PySem.W.Frag} {cf:CF} {a:CE} {δ:Ev} {σ:L2.St} {ι:List Addr} {H:Hp} {S:R.St} {Q:D->R.St->Prop} {Qv:VK} (hs:RS K ι H δ σ) (hh:RH K ι H S) (w:W (evE cf a δ S) Q)
  (h:∀d v ι' H' S',Ext ι H ι' H'->RS K ι' H' δ σ->RH K ι' H' S'->RV K ι' H' d v->Q d S'->Qv v H'):tE K cf a σ H Qv:=
 ⟨δ,ι,S,Q,hs,hh,w,fun v H' ⟨d,ι',S',x,r,hh',q⟩=>h d v ι' H' S' x (hs.ext x) hh' r q⟩
theorem tT.run {K:PySem.W.Frag} {cf:CF} {a:CE} {δ:Ev} {σ:L2.St} {ι:List Addr} {H:Hp} {S:R.St} {Q:Bool->R.St->Prop} {Qv:Bool->Hp->Prop} (hs:RS K ι H δ σ) (hh:RH K ι H S) (w:W (evT cf a δ S) Q)
  (h:∀b ι' H' S',Ext ι H ι' H'->RS K ι' H' δ σ->RH K ι' H' S'->Q b S'->Qv b H'):tT K cf a σ H Qv:=
 ⟨δ,ι,S,Q,hs,hh,w,fun b H' ⟨ι',S',x,hh',q⟩=>h b ι' H' S' x (hs.ext x) hh' q⟩
theorem tAs.run {K:PySem.W.Frag} {cf:CF} {a:CEs} {δ:Ev} {σ:L2.St} {ι:List Addr} {H:Hp} {S:R.St} {Q:List D->R.St->Prop} {Qv:List V->Hp->Prop} (hs:RS K ι H δ σ) (hh:RH K ι H S) (w:W (evEs cf a δ S) Q)
  (h:∀ds vs ι' H' S',Ext ι H ι' H'->RS K ι' H' δ σ->RH K ι' H' S'->RVs K ι' H' ds vs->Q ds S'->Qv vs H'):tAs K cf a σ H Qv:=
 ⟨δ,ι,S,Q,hs,hh,w,fun v H' ⟨d,ι',S',x,r,hh',q⟩=>h d v ι' H' S' x (hs.ext x) hh' r q⟩
theorem PE.ofT {X:Cx} {e:Expr} {cf:CF} {cl:CL} (h:PE X e (tLt X.K cf cl)):PE X e (tL X.K cf cl):=
 PE.imp h fun σ H Qv ⟨δ,ι,S,Q,hs,hh,w,q⟩=>⟨δ,ι,S,Q,hs,hh,w,fun v H' l=>q v H' l.l⟩
theorem tLt.run {K:PySem.W.Frag} {cf:CF} {a:CL} {δ:Ev} {σ:L2.St} {ι:List Addr} {H:Hp} {S:R.St} {Q:List D × List Nat->R.St->Prop} {Qv:VK} (hs:RS K ι H δ σ) (hh:RH K ι H S) (w:W (evL cf a δ S) Q)
  (h:∀ds p xs ι' H' S',Ext ι H ι' H'->RS K ι' H' δ σ->RH K ι' H' S'->RVs K ι' H' ds xs->p∉ι'->H' p=some (.lst xs)->H p=none->Q (ds,[]) S'->Qv (.ref p) H'):tLt K cf a σ H Qv:=
 ⟨δ,ι,S,Q,hs,hh,w,fun v H' ⟨ds,ι',S',p,xs,x,e,r,hp,hx,hh',hn,q⟩=>e▸h ds p xs ι' H' S' x (hs.ext x) hh' r hp hx hn q⟩
theorem tL.run {K:PySem.W.Frag} {cf:CF} {a:CL} {δ:Ev} {σ:L2.St} {ι:List Addr} {H:Hp} {S:R.St} {Q:List D × List Nat->R.St->Prop} {Qv:VK} (hs:RS K ι H δ σ) (hh:RH K ι H S) (w:W (evL cf a δ S) Q)
  (h:∀ds lks v ι' H' S',Ext ι H ι' H'->RS K ι' H' δ σ->RH K ι' H' S'->Sq K ι' H' S' v ds lks->Q (ds,lks) S'->Qv v H'):tL K cf a σ H Qv:=
 ⟨δ,ι,S,Q,hs,hh,w,fun v H' ⟨ds,lks,ι',S',x,r,hh',q⟩=>h ds lks v ι' H' S' x (hs.ext x) hh' r q⟩
end R
end
section
namespace R
open PySem PySem.Spec PyProof.Rows L2
variable [Mks]
section
variable {T:Tab} {cf:CF} {k:Nat} {N:List Str} {sc:Scope} {X:Cx} {pos:Pos}
theorem W_ok' {α:Type} {o:Out α} {Q:α->R.St->Prop} (h:W o Q):∃a S,o=.ok a S/\Q a S:=W.iff.mp h
theorem W_lift' {α:Type} {S:R.St} {o:Option α} {Q:α->R.St->Prop} (h:W (lift S o) Q):∃a,o=some a/\Q a S:=by
 cases o with
 |none=>exact h.elim
 |some a=>exact ⟨a,rfl,h⟩
theorem se_loc (G:Gd T cf k N sc X) {i:Nat} {x:Str} (h1:N[i]?=some x) (h2:isVis sc x=true) (h3:(x == ("__debug__":Str))=false) (h4:(x == ("__classdict__":Str))=false):PE X (.Name x pos) (tE X.K cf (.loc i)):=by
 refine PE.imp (pe_var (i:=i) (by rw [G.nm];exact h1) (G.vis h2) h3 h4) fun σ H Qv ⟨δ,ι,S,Q,hs,hh,w,q⟩=>?_
 simp only [evE] at w
 obtain ⟨d,e,hq⟩:=W_lift' w
 have e':δ[i]?=some (some d):=by
  cases z:δ[i]? with
  |none=>rw [z] at e;cases e
  |some o=>rw [z] at e;simp at e;rw [e]
 obtain ⟨v,ev,r⟩:=hs.2 i d e'
 exact ⟨v,ev,q v H (Lf.of hh r hq)⟩
theorem se_con {d:D} {c:Const} {j:Nat} (h:conB d c=true):PE X (.Constant c j pos) (tE X.K cf (.con d)):=by
 have key:∀{v:V},PE X (.Constant c j pos) (tC v)->(∀K ι H,RV K ι H d v)->PE X (.Constant c j pos) (tE X.K cf (.con d)):=fun {v} hp hr=>
  PE.imp hp fun σ H Qv ⟨δ,ι,S,Q,hs,hh,w,q⟩=>q v H (Lf.of hh (hr _ _ _) (by simpa [evE] using w))
 cases d<;>cases c<;>first
  |exact key pe_non fun _ _ _=>rfl
  |cases h
  |(simp only [conB,beq_iff_eq] at h;subst h;exact key pe_int fun _ _ _=>rfl)
  |(simp only [conB,beq_iff_eq] at h;subst h;exact key pe_bl fun _ _ _=>rfl)
  |(simp only [conB,beq_iff_eq] at h;subst h;exact key pe_str fun _ _ _=>rfl)
theorem se_glob (G:Gd T cf k N sc X) {d d':D} {x:Str} (h1:isGl sc x=true) (h2:T.cons.lookup x=some d') (h3:eqC d' d=true) (h4:(x == ("__debug__":Str))=false):PE X (.Name x pos) (tE X.K cf (.con d)):=by
 have e:=eqC_eq h3
 subst e
 obtain ⟨hsc,u,hu,r⟩:=G.tab.con x d' h2
 exact PE.imp (pe_glob (G.gl h1) hu r h4) fun σ H Qv ⟨δ,ι,S,Q,hs,hh,w,q⟩=>q (sV d') H (Lf.of hh (sV_ok hsc) (by simpa [evE] using w))
theorem se_bin {ca cb:CE} {a b:Expr} {op:Operator} (ha:PE X a (tE X.K cf ca)) (hb:PE X b (tE X.K cf cb)):PE X (.BinOp a op b pos) (tE X.K cf (.bin op ca cb)):=by
 refine PE.imp (pe_op (bin_ok op) ha hb) fun σ H Qv ⟨δ,ι,S,Q,hs,hh,w,q⟩=>?_
 simp only [evE,W_bind] at w
 refine tE.run hs hh w fun d v ι1 H1 S1 x1 hs1 hh1 r1 w1=>tE.run hs1 hh1 w1 fun e u ι2 H2 S2 x2 hs2 hh2 r2 w2=>?_
 exact ⟨ι2,S2,d,e,Q,r1.ext x2,r2,hh2,w2,fun z H3 l=>q z H3 (Lf.up (x1.trans x2) l)⟩
theorem se_neg {ca:CE} {a:Expr} (ha:PE X a (tE X.K cf ca)):PE X (.UnaryOp .USub a pos) (tE X.K cf (.neg ca)):=by
 refine PE.imp (pe_un un_neg ha) fun σ H Qv ⟨δ,ι,S,Q,hs,hh,w,q⟩=>?_
 simp only [evE,W_bind] at w
 refine tE.run hs hh w fun d v ι1 H1 S1 x1 hs1 hh1 r1 w1=>?_
 cases d with
 | int i =>
   obtain rfl:v=.int i:=r1
   exact ⟨i,rfl,q _ _ (Lf.up x1 (Lf.of (d:=.int (-i)) hh1 rfl w1))⟩
 |_=>exact w1.elim
theorem se_nt {ca:CE} {a:Expr} (ha:PE X a (tE X.K cf ca)):PE X (.UnaryOp .Not a pos) (tE X.K cf (.nt ca)):=by
 refine PE.imp (pe_not ha) fun σ H Qv ⟨δ,ι,S,Q,hs,hh,w,q⟩=>?_
 simp only [evE,W_bind] at w
 refine tE.run hs hh w fun d v ι1 H1 S1 x1 hs1 hh1 r1 w1=>?_
 cases d with
 | bl i =>
   obtain rfl:v=.bl i:=r1
   exact ⟨i,rfl,q _ _ (Lf.up x1 (Lf.of (d:=.bl (!i)) hh1 rfl w1))⟩
 |_=>exact w1.elim
theorem se_cmp (G:Gd T cf k N sc X) {ca cb:CE} {a b:Expr} {op:CmpOp} (ha:PE X a (tE X.K cf ca)) (hb:PE X b (tE X.K cf cb)) (hm:notSet b=true):PE X (.Compare a [op] [b] pos) (tE X.K cf (.cmp op ca cb)):=by
 refine PE.imp (pe_cmpR (cmp_ok G.hu op) ha hb (mark_of hm op)) fun σ H Qv ⟨δ,ι,S,Q,hs,hh,w,q⟩=>?_
 simp only [evE,W_bind] at w
 refine tE.run hs hh w fun d v ι1 H1 S1 x1 hs1 hh1 r1 w1=>tE.run hs1 hh1 w1 fun e u ι2 H2 S2 x2 hs2 hh2 r2 w2=>?_
 obtain ⟨b,hb,w3⟩:=W_lift' w2
 exact ⟨ι2,S2,d,e,b,r1.ext x2,r2,hh2,hb,q _ _ (Lf.up (x1.trans x2) (Lf.of (d:=.bl b) hh2 rfl w3))⟩
theorem st_cmp (G:Gd T cf k N sc X) {ca cb:CE} {a b:Expr} {op:CmpOp} (ha:PE X a (tE X.K cf ca)) (hb:PE X b (tE X.K cf cb)) (hm:notSet b=true):PT X (.Compare a [op] [b] pos) (tT X.K cf (.cmp op ca cb)):=by
 refine PT.imp (pt_cmpR (cmp_ok G.hu op) ha hb (mark_of hm op)) fun σ H Qv ⟨δ,ι,S,Q,hs,hh,w,q⟩=>?_
 simp only [evT,W_bind] at w
 refine tE.run hs hh w fun d v ι1 H1 S1 x1 hs1 hh1 r1 w1=>tE.run hs1 hh1 w1 fun e u ι2 H2 S2 x2 hs2 hh2 r2 w2=>?_
 obtain ⟨b,hb,w3⟩:=W_lift' w2
 exact ⟨ι2,S2,d,e,b,r1.ext x2,r2,hh2,hb,b,rfl,q _ _ ⟨ι2,S2,x1.trans x2,hh2,w3⟩⟩
theorem se_and {ca cb:CE} {a b:Expr} {rest:List Expr} (ha:PE X a (tE X.K cf ca)) (hb:PE X (.BoolOp .And (b::rest) pos) (tE X.K cf cb)):PE X (.BoolOp .And (a::b::rest) pos) (tE X.K cf (.and ca cb)):=by
 refine PE.imp (pe_and ha hb) fun σ H Qv ⟨δ,ι,S,Q,hs,hh,w,q⟩=>?_
 simp only [evE,W_bind] at w
 refine tE.run hs hh w fun d v ι1 H1 S1 x1 hs1 hh1 r1 w1=>?_
 cases d with
 | bl c =>
   obtain rfl:v=.bl c:=r1
   refine ⟨c,rfl,?_⟩
   cases c with
   |false=>exact q _ _ (Lf.up x1 (Lf.of (d:=.bl false) hh1 rfl w1))
   |true=>exact ⟨δ,ι1,S1,Q,hs1,hh1,w1,fun z H3 l=>q z H3 (Lf.up x1 l)⟩
 |_=>exact w1.elim
theorem se_or {ca cb:CE} {a b:Expr} {rest:List Expr} (ha:PE X a (tE X.K cf ca)) (hb:PE X (.BoolOp .Or (b::rest) pos) (tE X.K cf cb)):PE X (.BoolOp .Or (a::b::rest) pos) (tE X.K cf (.or ca cb)):=by
 refine PE.imp (pe_or ha hb) fun σ H Qv ⟨δ,ι,S,Q,hs,hh,w,q⟩=>?_
 simp only [evE,W_bind] at w
 refine tE.run hs hh w fun d v ι1 H1 S1 x1 hs1 hh1 r1 w1=>?_
 cases d with
 | bl c =>
   obtain rfl:v=.bl c:=r1
   refine ⟨c,rfl,?_⟩
   cases c with
   |true=>exact q _ _ (Lf.up x1 (Lf.of (d:=.bl true) hh1 rfl w1))
   |false=>exact ⟨δ,ι1,S1,Q,hs1,hh1,w1,fun z H3 l=>q z H3 (Lf.up x1 l)⟩
 |_=>exact w1.elim
theorem LfB.up {K:PySem.W.Frag} {ι ι':List Addr} {H H':Hp} {Q:Bool->R.St->Prop} {b:Bool} {H2:Hp} (x:Ext ι H ι' H') (h:LfB K ι' H' Q b H2):LfB K ι H Q b H2:=by
 obtain ⟨ι2,S2,x2,r⟩:=h
 exact ⟨ι2,S2,x.trans x2,r⟩
theorem st_and {ca cb:CE} {a b:Expr} {rest:List Expr} (ha:PT X a (tT X.K cf ca)) (hb:PW X (.BoolOp .And (b::rest) pos) (tT X.K cf cb)):PW X (.BoolOp .And (a::b::rest) pos) (tT X.K cf (.and ca cb)):=by
 refine PW.imp (pw_and ha hb) fun σ H Qv ⟨δ,ι,S,Q,hs,hh,w,q⟩=>?_
 simp only [evT,W_bind] at w
 refine tT.run hs hh w fun c ι1 H1 S1 x1 hs1 hh1 w1=>?_
 cases c with
 |false=>exact q _ _ ⟨ι1,S1,x1,hh1,w1⟩
 |true=>exact ⟨δ,ι1,S1,Q,hs1,hh1,w1,fun z H3 l=>q z H3 (LfB.up x1 l)⟩
theorem st_or {ca cb:CE} {a b:Expr} {rest:List Expr} (ha:PT X a (tT X.K cf ca)) (hb:PW X (.BoolOp .Or (b::rest) pos) (tT X.K cf cb)):PW X (.BoolOp .Or (a::b::rest) pos) (tT X.K cf (.or ca cb)):=by
 refine PW.imp (pw_or ha hb) fun σ H Qv ⟨δ,ι,S,Q,hs,hh,w,q⟩=>?_
 simp only [evT,W_bind] at w
 refine tT.run hs hh w fun c ι1 H1 S1 x1 hs1 hh1 w1=>?_
 cases c with
 |true=>exact q _ _ ⟨ι1,S1,x1,hh1,w1⟩
 |false=>exact ⟨δ,ι1,S1,Q,hs1,hh1,w1,fun z H3 l=>q z H3 (LfB.up x1 l)⟩
theorem st_nt {ca:CE} {a:Expr} (ha:PT X a (tT X.K cf ca)):PT X (.UnaryOp .Not a pos) (tT X.K cf (.nt ca)):=by
 refine PT.imp (pt_not ha) fun σ H Qv ⟨δ,ι,S,Q,hs,hh,w,q⟩=>?_
 simp only [evT,W_bind] at w
 exact tT.run hs hh w fun c ι1 H1 S1 x1 hs1 hh1 w1=>q _ _ ⟨ι1,S1,x1,hh1,w1⟩
theorem tru_ex {ι:List Addr} {H:Hp} {S:R.St} {d:D} {v:V} {b:Bool} (hh:RH X.K ι H S) (r:RV X.K ι H d v) (h:tru S d=some b):TruV X.K v H b:=by
 cases d with
 |non=>obtain rfl:v=.non:=r;cases h;rfl
 |bl c=>obtain rfl:v=.bl c:=r;cases h;rfl
 |int i=>obtain rfl:v=.int i:=r;cases h;rfl
 | tup ds =>
   obtain ⟨a,xs,rfl,ha,rr⟩:=r
   cases h
   refine .inr (.inl ⟨xs,SqT.of ha,?_⟩)
   have:=rr.length
   cases ds<;>cases xs<;>first|rfl|simp at this
 | ref l =>
   simp only [tru] at h
   split at h
   · rename_i ds e
     cases h
     obtain ⟨a,h1,rfl⟩:=r
     obtain ⟨a2,h2,xs,ha,rr⟩:=hh.obj _ _ e
     rw [h1] at h2;cases h2
     refine .inl ⟨xs,SqL.of ha,?_⟩
     have:=rr.length
     cases ds<;>cases xs<;>first|rfl|simp at this
   · cases h
 |_=>cases h
theorem st_tst {ca:CE} {a:Expr} (ha:PE X a (tE X.K cf ca)) (hp:plainT a=true):PT X a (tT X.K cf (.tst ca)):=by
 refine PT.imp (pt_truth ha (tru_of hp X.env)) fun σ H Qv ⟨δ,ι,S,Q,hs,hh,w,q⟩=>?_
 simp only [evT,W_bind] at w
 refine tE.run hs hh w fun d v ι1 H1 S1 x1 hs1 hh1 r1 w1=>?_
 obtain ⟨b,hb,w2⟩:=W_lift' w1
 exact ⟨b,tru_ex hh1 r1 hb,q _ _ ⟨ι1,S1,x1,hh1,w2⟩⟩
theorem se_ite {cc ca cb:CE} {c a b:Expr} (hc:PT X c (tT X.K cf cc)) (ha:PE X a (tE X.K cf ca)) (hb:PE X b (tE X.K cf cb)):PE X (.IfExp c a b pos) (tE X.K cf (.ite cc ca cb)):=by
 refine PE.imp (pe_ifExp hc ha hb) fun σ H Qv ⟨δ,ι,S,Q,hs,hh,w,q⟩=>?_
 simp only [evE,W_bind] at w
 refine tT.run hs hh w fun c ι1 H1 S1 x1 hs1 hh1 w1=>?_
 cases c with
 |true=>exact ⟨δ,ι1,S1,Q,hs1,hh1,w1,fun z H3 l=>q z H3 (Lf.up x1 l)⟩
 |false=>exact ⟨δ,ι1,S1,Q,hs1,hh1,w1,fun z H3 l=>q z H3 (Lf.up x1 l)⟩
theorem sa_nil:PA X [] (tAs X.K cf .nil):=PA.imp pa_nil fun σ H Qv ⟨δ,ι,S,Q,hs,hh,w,q⟩=>q [] H ⟨[],ι,S,Ext.refl _ _,rfl,hh,by simpa [evEs] using w⟩
theorem sa_cons {ce:CE} {ces:CEs} {e:Expr} {es:List Expr} (he:PE X e (tE X.K cf ce)) (hes:PA X es (tAs X.K cf ces)) (hn:noStar e=true):PA X (e::es) (tAs X.K cf (.cons ce ces)):=by
 refine PA.imp (pa_cons he hes (star_of hn es X.env)) fun σ H Qv ⟨δ,ι,S,Q,hs,hh,w,q⟩=>?_
 simp only [evEs,W_bind] at w
 refine tE.run hs hh w fun d v ι1 H1 S1 x1 hs1 hh1 r1 w1=>tAs.run hs1 hh1 w1 fun ds vs ι2 H2 S2 x2 hs2 hh2 r2 w2=>?_
 exact q _ _ ⟨d::ds,ι2,S2,x1.trans x2,⟨v,vs,rfl,r1.ext x2,r2⟩,hh2,w2⟩
theorem se_tup {ces:CEs} {es:List Expr} {j:Nat} (h:PA X es (tAs X.K cf ces)):PE X (.Tuple es j pos) (tE X.K cf (.tup ces)):=by
 refine PE.imp (pe_tup h) fun σ H Qv ⟨δ,ι,S,Q,hs,hh,w,q⟩=>?_
 simp only [evE,W_bind] at w
 refine tAs.run hs hh w fun ds vs ι1 H1 S1 x1 hs1 hh1 r1 w1=>?_
 split at w1
 · rename_i c
   exact ⟨by rw [r1.length,sizeLine_eq];exact c,fun p hp=>q _ _ (Lf.up x1 (Lf.tup hh1 hp r1 w1))⟩
 · exact w1.elim
theorem se_lst {ces:CEs} {es:List Expr} (h:PA X es (tAs X.K cf ces)):PE X (.List es pos) (tE X.K cf (.lst ces)):=by
 refine PE.imp (pe_lst h) fun σ H Qv ⟨δ,ι,S,Q,hs,hh,w,q⟩=>?_
 simp only [evE,W_bind] at w
 refine tAs.run hs hh w fun ds vs ι1 H1 S1 x1 hs1 hh1 r1 w1=>?_
 obtain ⟨c,w2⟩:=lay_ex w1
 exact ⟨by rw [r1.length];exact c,fun p hp=>q _ _ (Lf.up x1 (Lf.lst hh1 hp r1 w2))⟩
theorem se_dnew:PE X (.Dict [] [] pos) (tE X.K cf .dnew):=by
 refine PE.imp pe_dnewK fun σ H Qv ⟨δ,ι,S,Q,hs,hh,w,q⟩=>?_
 simp only [evE] at w
 intro p hp
 exact q _ _ ⟨.ref S.len,ι++[p],S.push (.dic []),Ext.obj hh hp _,⟨p,hh.last p,rfl⟩,hh.obj' hp _ _ ⟨rfl,upd_same⟩,w⟩
theorem ix_ok {ι:List Addr} {H:Hp} {S:R.St} {d:D} {v:V} {ds:List D} {i:Int} {e:D} (hh:RH X.K ι H S) (r:RV X.K ι H d v) (hq:seqOf S d=some ds) (ha:R.atI ds i=some e):∃u,rIx X.K v (.int i) H (fun z H'=>z=u/\H'=H)/\RV X.K ι H e u:=by
 obtain ⟨a,xs,rfl,hx,rr⟩:=seq_ok hh hq r
 have hl:=rr.length
 have key:∃u,L2.atI xs i=some u/\RV X.K ι H e u:=by
  unfold R.atI at ha
  cases e1:R.ixN ds.length i with
  |none=>rw [e1] at ha;cases ha
  | some j =>
    rw [e1] at ha
    obtain ⟨u,h1,h2⟩:=rr.get (show ds[j]?=some e from ha)
    refine ⟨u,?_,h2⟩
    unfold L2.atI
    have:L2.ixN xs.length i=some j:=by rw [hl];exact e1
    rw [this];exact h1
 obtain ⟨u,h1,h2⟩:=key
 refine ⟨u,?_,h2⟩
 rcases hx with hx|hx
 · exact .inl ⟨a,xs,i,u,rfl,rfl,hx,h1,rfl,rfl⟩
 · exact .inr (.inl ⟨a,xs,i,u,rfl,rfl,hx,h1,rfl,rfl⟩)
theorem rIx_imp {K:PySem.W.Frag} {x y u:V} {H:Hp} {Q:VK} (h:rIx K x y H (fun z H'=>z=u/\H'=H)) (q:Q u H):rIx K x y H Q:=by
 rcases h with ⟨p,xs,i,v,h1,h2,h3,h4,rfl,_⟩|⟨p,xs,i,v,h1,h2,h3,h4,rfl,_⟩|⟨z,i,c,h1,h2,h3,h4,h5,_⟩
 · exact .inl ⟨p,xs,i,v,h1,h2,h3,h4,q⟩
 · exact .inr (.inl ⟨p,xs,i,v,h1,h2,h3,h4,q⟩)
 · exact .inr (.inr ⟨z,i,c,h1,h2,h3,h4,by rw [h5];exact q⟩)
theorem se_ix {ca cb:CE} {a b:Expr} (ha:PE X a (tE X.K cf ca)) (hb:PE X b (tE X.K cf cb)) (hp:notSlice b=true):PE X (.Subscript a b pos) (tE X.K cf (.ix ca cb)):=by
 refine PE.imp (pe_ix ix_seq ha hb (ix_of hp)) fun σ H Qv ⟨δ,ι,S,Q,hs,hh,w,q⟩=>?_
 simp only [evE,W_bind] at w
 refine tE.run hs hh w fun d v ι1 H1 S1 x1 hs1 hh1 r1 w1=>tE.run hs1 hh1 w1 fun e u ι2 H2 S2 x2 hs2 hh2 r2 w2=>?_
 split at w2
 · rename_i ds i eq
   obtain ⟨z,hz,w3⟩:=W_lift' w2
   obtain rfl:u=.int i:=r2
   obtain ⟨u,h1,h2⟩:=ix_ok hh2 (r1.ext x2) eq hz
   exact rIx_imp h1 (q _ _ (Lf.up (x1.trans x2) (Lf.of hh2 h2 w3)))
 · exact w2.elim
end
end R
end
section
namespace R
open PySem PySem.Spec PyProof.Rows L2
variable [Mks]
section
variable {K:PySem.W.Frag} {ι ι':List Addr} {H H':Hp} {S T:R.St} {d:D} {v:V}
theorem get_frz {l:Nat} {o:MO} (hf:T.frz=S.frz++S.new) (h:S.get l=some o):T.get l=some o:=by
 obtain ⟨f,n,k⟩:=T
 have hf:f=S.frz++S.new:=hf
 subst hf
 exact get_old h n k
theorem RH.cut (hh:RH K ι H S) (x:Ext ι H ι' H') (hT:RH K ι' H' T) (hf:T.frz=S.frz++S.new):RH K ι H' S:=by
 refine ⟨hh.len,hh.nd,fun l o e=>?_,hT.tab⟩
 obtain ⟨a,h1,h2⟩:=hh.obj l o e
 obtain ⟨b,h3,h4⟩:=hT.obj l o (get_frz hf e)
 rw [pre_get x.pre h1] at h3;cases h3
 refine ⟨a,h1,?_⟩
 cases o with
 | lst ds =>
   obtain ⟨xs,_,r1⟩:=h2
   obtain ⟨ys,e2,r2⟩:=h4
   exact ⟨ys,e2,r2.restrict x.pre r1.flats⟩
 |dic kvs=>exact h4
 | ins c fs =>
   obtain ⟨_,_,ws,_,_,r1⟩:=h2
   obtain ⟨C,dx,ys,e0,e2,r2⟩:=h4
   exact ⟨C,dx,ys,e0,e2,r2.restrict x.pre r1.flats⟩
 | dtp kvs =>
   obtain ⟨_,ws,_,r1⟩:=h2
   obtain ⟨nd,ys,e2,r2⟩:=h4
   exact ⟨nd,ys,e2,r2.restrict x.pre r1.flats⟩
theorem Ext.cut (x:Ext ι H ι' H'):Ext ι H ι H':=⟨List.prefix_refl _,x.kp,fun a o h e=>⟨(x.rest a o h e).1,h⟩⟩
theorem pre_mem {l:Nat} {a:Addr} (hp:ι <+: ι') (nd:ι'.Nodup) (hl:ι'[l]?=some a) (h:ι.length<=l):a∉ι:=fun hm=>by
 obtain ⟨t,rfl⟩:=hp
 rw [List.getElem?_append_right h] at hl
 have h2:=List.mem_of_getElem? hl
 exact (List.nodup_append.mp nd).2.2 a hm a h2 rfl
theorem ext_one {l:Nat} {a:Addr} (x:Ext ι H ι' H') (nd:ι'.Nodup) (hl:ι'[l]?=some a) (h:ι.length<=l):Ext ι H (ι++[a]) H':=by
 refine ⟨List.prefix_append _ _,x.kp,fun b o hb e=>⟨(x.rest b o hb e).1,fun z=>?_⟩⟩
 rcases List.mem_append.mp z with z|z
 · exact hb z
 · simp at z
   subst z
   exact (x.rest b o hb e).2 (List.mem_of_getElem? hl)
theorem RH.one {l:Nat} {a:Addr} {o:MO} (hh:RH K ι H' S) (nd:a∉ι) (ho:RO K (ι++[a]) H' a o):RH K (ι++[a]) H' (S.push o):=by
 refine ⟨by rw [List.length_append,hh.len,push_len];rfl,?_,fun l o' e=>?_,hh.tab⟩
 · rw [List.nodup_append]
   refine ⟨hh.nd,by simp,fun b hb c hc=>?_⟩
   simp at hc;subst hc
   exact fun z=>nd (z▸hb)
 · by_cases hl:l<S.len
   · rw [get_push_lt hl] at e
     obtain ⟨b,h1,h2⟩:=hh.obj l o' e
     exact ⟨b,pre_get (List.prefix_append _ _) h1,h2.up (List.prefix_append _ _) (Kp.refl _) rfl⟩
   · have hl2:=get_lt e
     rw [push_len] at hl2
     have:l=S.len:=by omega
     subst this
     rw [get_push] at e;cases e
     exact ⟨a,by rw [<-hh.len];simp,ho⟩
theorem RH.keep (hT:RH K ι' H' T) (hf:T.frz=S.frz++S.new):RH K ι' H' ⟨S.frz,S.new++T.new,S.lk⟩:=by
 have hg:∀l,(R.St.mk S.frz (S.new++T.new) S.lk).get l=T.get l:=fun l=>by
  unfold St.get
  rw [hf]
  simp only [List.length_append]
  by_cases h1:l<S.frz.length
  · rw [if_pos h1,if_pos (by omega),List.getElem?_append_left h1]
  · by_cases h2:l<S.frz.length+S.new.length
    · rw [if_neg h1,if_pos h2,List.getElem?_append_left (by omega),List.getElem?_append_right (by omega)]
    · rw [if_neg h1,if_neg h2,List.getElem?_append_right (by omega)]
      congr 1;omega
 refine ⟨?_,hT.nd,fun l o e=>hT.obj l o (by rw [<-hg];exact e),hT.tab⟩
 rw [hT.len]
 unfold St.len
 rw [hf]
 simp only [List.length_append]
 omega
theorem leave_ok {Q:D->R.St->Prop} (hh:RH K ι H S) (x:Ext ι H ι' H') (r:RV K ι' H' d v) (hT:RH K ι' H' T) (hf:T.frz=S.frz++S.new) (w:W (leave S d T) Q):Lf K ι H Q v H':=by
 have hc:=hh.cut x hT hf
 unfold leave at w
 split at w
 · rename_i c
   rw [<-hh.len] at c
   exact ⟨d,ι,S,x.cut,r.restrict x.pre c,hc,w⟩
 · rename_i c
   dsimp only at w
   split at w
   · rename_i l
     obtain ⟨a,h1,rfl⟩:=id r
     have hl:ι.length<=l:=by
      simp only [R.flat,decide_eq_true_eq] at c
      rw [hh.len];omega
     have ha:=pre_mem x.pre hT.nd h1 hl
     split at w
     · rename_i ds e
       obtain ⟨b,h2,h3⟩:=hT.obj l _ e
       rw [h1] at h2;cases h2
       split at w
       · rename_i c2
         rw [<-hh.len] at c2
         obtain ⟨ys,e2,r2⟩:=h3
         refine ⟨.ref S.len,ι++[a],S.push (.lst ds),ext_one x hT.nd h1 hl,⟨a,by rw [<-hh.len];simp,rfl⟩,hc.one (l:=l) ha ⟨ys,e2,(r2.restrict x.pre c2).up (List.prefix_append _ _) (Kp.refl _)⟩,w⟩
       · exact ⟨_,ι',_,x,r,hT.keep hf,w⟩
     · rename_i kvs e
       obtain ⟨b,h2,h3⟩:=hT.obj l _ e
       rw [h1] at h2;cases h2
       split at w
       · exact ⟨.ref S.len,ι++[a],S.push (.dic kvs),ext_one x hT.nd h1 hl,⟨a,by rw [<-hh.len];simp,rfl⟩,hc.one (l:=l) ha h3,w⟩
       · exact ⟨_,ι',_,x,r,hT.keep hf,w⟩
     · rename_i kvs e
       obtain ⟨b,h2,h3⟩:=hT.obj l _ e
       rw [h1] at h2;cases h2
       split at w
       · rename_i c2
         rw [<-hh.len] at c2
         obtain ⟨nd,ys,e2,r2⟩:=h3
         refine ⟨.ref S.len,ι++[a],S.push (.dtp kvs),ext_one x hT.nd h1 hl,⟨a,by rw [<-hh.len];simp,rfl⟩,hc.one (l:=l) ha ⟨nd,ys,e2,(r2.restrict x.pre c2).up (List.prefix_append _ _) (Kp.refl _)⟩,w⟩
       · exact ⟨_,ι',_,x,r,hT.keep hf,w⟩
     · exact ⟨_,ι',_,x,r,hT.keep hf,w⟩
   · exact ⟨_,ι',_,x,r,hT.keep hf,w⟩
end
section
variable {T:Tab} {cf:CF} {k:Nat} {N:List Str} {sc:Scope} {X:Cx} {pos p:Pos}
theorem RVs.nons {K:PySem.W.Frag} {ι:List Addr} {H:Hp}:∀j:Nat,RVs K ι H (List.replicate j .non) (List.replicate j .non)
 |0=>rfl
 |j+1=>⟨.non,List.replicate j .non,rfl,rfl,RVs.nons j⟩
theorem RH.enter {K:PySem.W.Frag} {ι:List Addr} {H:Hp} {S:R.St} (h:RH K ι H S):RH K ι H S.enter:=⟨by rw [enter_len];exact h.len,h.nd,fun l o e=>h.obj l o (by rw [get_enter] at e;exact e),h.tab⟩
theorem call_args {f j:Nat} {ces:CEs} {σ:L2.St} {H:Hp} {Qv:VK} (hfr:CFok cf) (h:tE X.K cf (.call f j ces) σ H Qv) :
  tCall (spF X.K cf f) (List.replicate j .non) E0 (tAs X.K cf ces) σ H Qv:=by
 obtain ⟨δ,ι,S,Q,hs,hh,w,q⟩:=h
 simp only [evE,W_bind] at w
 refine tAs.run hs hh w fun ds vs ι1 H1 S1 x1 hs1 hh1 r1 w1=>?_
 unfold app at w1
 rw [W_bind] at w1
 refine ⟨ι1,S1.enter,ds++List.replicate j .non,r1.append (RVs.nons j),hh1.enter,?_⟩
 obtain ⟨d,T',e,w2⟩:=W_ok' w1
 rw [e]
 exact fun v H' ι' x r hT=>q v H' (Lf.up x1 (leave_ok hh1 x r hT (hfr _ _ _ _ _ e).frz w2))
theorem back_none {K:PySem.W.Frag} {ι ι1:List Addr} {H H1:Hp} {S1:R.St} {a:Addr} (hh:RH K ι1 H1 S1) (x:Ext ι H ι1 H1) (hn:H1 a=none):H a=none:=by
 cases e:H a with
 |none=>rfl
 | some o =>
   by_cases hm:a∈ι
   · have h2:a∈ι1:=by obtain ⟨t,rfl⟩:=x.pre;exact List.mem_append_left _ hm
     exact absurd h2 (hh.fresh hn)
   · have:=(x.rest a o hm e).1
     rw [hn] at this
     rcases this with z|⟨_,_,z⟩<;>cases z
theorem se_call (G:Gd T cf k N sc X) {f j:Nat} {x:Str} {ps:List Str} {nd:Nat} {ces:CEs} {e:Expr} {es:List Expr} (hf:T.fns[f]?=some (x,ps,nd)) (hj:j<=nd) (hg:isGl sc x=true) (hd:(x == ("__debug__":Str))=false) (ha:PA X (e::es) (tAs X.K cf ces)) (hst:(e::es).all noStar=true) :
  PE X (.Call (.Name x p) (e::es) [] pos) (tE X.K cf (.call f j ces)):=by
 have Hs:=G.tab.fns f x ps nd hf j hj
 rw [List.all_cons,Bool.and_eq_true] at hst
 exact PE.imp (pe_fn Hs G.room ha (G.gl hg) hd (star_of hst.1 es X.env) (stars_any hst.2)) fun σ H Qv h=>call_args G.tab.frm h
theorem se_call0 (G:Gd T cf k N sc X) {f j:Nat} {x:Str} {ps:List Str} {nd:Nat} (hf:T.fns[f]?=some (x,ps,nd)) (hj:j<=nd) (hg:isGl sc x=true) (hd:(x == ("__debug__":Str))=false) :
  PE X (.Call (.Name x p) [] [] pos) (tE X.K cf (.call f j .nil)):=by
 have Hs:=G.tab.fns f x ps nd hf j hj
 refine PE.imp (pe_fn0 Hs G.room (G.gl hg) hd) fun σ H Qv ⟨δ,ι,S,Q,hs,hh,w,q⟩=>?_
 simp only [evE,evEs,bind_ok] at w
 unfold app at w
 rw [W_bind] at w
 obtain ⟨d,T',e,w2⟩:=W_ok' w
 refine ⟨ι,S.enter,[]++List.replicate j .non,RVs.append rfl (RVs.nons j),hh.enter,?_⟩
 rw [e]
 exact fun v H' ι' x r hT=>q v H' (leave_ok hh x r hT (G.tab.frm _ _ _ _ _ e).frz w2)
end
end R
end
section
namespace R
open PySem PySem.Spec PyProof.Rows L2
variable [Mks]
section
variable {T:Tab} {cf:CF} {k:Nat} {N:List Str} {sc:Scope} {X:Cx} {pos p:Pos}
theorem insOf_inv {S:R.St} {d:D} {c:Nat} {fs:List (Str × D)} (h:insOf S d=some (c,fs)):∃l,d=.ref l/\S.get l=some (.ins c fs):=by
 cases d with
 | ref l =>
   refine ⟨l,rfl,?_⟩
   unfold insOf at h
   dsimp only at h
   cases e:S.get l with
   |none=>rw [e] at h;cases h
   | some o =>
     rw [e] at h
     cases o with
     |ins c' fs'=>cases h;rfl
     |_=>cases h
 |_=>cases h
theorem ne_of {α:Type} [BEq α] {xs:List α} {a:α} (h:xs.contains a=true):xs≠[]:=fun e=>by rw [e] at h;simp at h
theorem Gd.clsAt (G:Gd T cf k N sc X) (h0:T.flds≠[]\/T.inits≠[]\/T.isas≠[]) {c:Nat} {C:Addr} (h:Mks.cl[c]?=some C):∃x,T.cls[c]?=some x/\Cls X.K C/\X.mg x=some (.ref C)/\∀f,T.flds.contains f=true->NoAttr X.K C f:=by
 have hl:c<T.cls.length:=Nat.lt_of_lt_of_le (List.getElem?_eq_some_iff.mp h).1 (G.tab.cln h0)
 obtain ⟨C',h1,h2,h3,h4⟩:=G.tab.cls c T.cls[c] (List.getElem?_eq_getElem hl)
 rw [h] at h1;cases h1
 exact ⟨_,List.getElem?_eq_getElem hl,h2,h3,h4⟩
theorem se_fld (G:Gd T cf k N sc X) {ca:CE} {a:Expr} {f:Str} (ha:PE X a (tE X.K cf ca)) (hsup:notSup a=true) (hf:T.flds.contains f=true):PE X (.Attribute a f pos) (tE X.K cf (.fld ca f)):=by
 refine PE.imp (pe_fld ha (sup_of hsup f X.env _)) fun σ H Qv ⟨δ,ι,S,Q,hs,hh,w,q⟩=>?_
 simp only [evE,W_bind] at w
 refine tE.run hs hh w fun d v ι1 H1 S1 x1 hs1 hh1 r1 w1=>?_
 obtain ⟨u,eu,w2⟩:=W_lift' w1
 cases ei:insOf S1 d with
 |none=>rw [ei] at eu;cases eu
 | some pr =>
   obtain ⟨c,fs⟩:=pr
   rw [ei] at eu
   have eu:fs.lookup f=some u:=eu
   obtain ⟨l,rfl,hl⟩:=insOf_inv ei
   obtain ⟨b,i1,rfl⟩:=r1
   obtain ⟨b',i2,C,dx,ws,hC,hb,rf⟩:=hh1.obj l _ hl
   rw [i1] at i2;cases i2
   obtain ⟨_,_,cl,_,na⟩:=G.clsAt (.inl (ne_of hf)) hC
   rcases rf.look f with ⟨e1,_⟩|⟨d',v',e1,e2,rv⟩
   · rw [eu] at e1;cases e1
   · rw [eu] at e1;cases e1
     exact ⟨b,C,dx,ws,v',rfl,hb,cl,na f hf,e2,q _ _ (Lf.up x1 (Lf.of hh1 rv w2))⟩
theorem meth_any {prog:Program} {w:World} {A:Around} {E:Value->Shared->Prop} {s:Shared} {env:Env} {o:Expr} {name:Str} {apos pos:Pos} {args:List Expr} {Q:Value->Shared->Prop}
  (hbase:attributeBase o name env (eval o env)=eval o env)
  (hfew:((backTo pos (starEach args env)).all (fun x=>!x.1)&&(backToKw pos (keywordEach [] env)).all (fun x=>x.1.isSome)
   && decide (args.length+([]:List Keyword).length+(if ([]:List Keyword).isEmpty then 0 else 1)<30))=true)
  (hline:(apos.endLine == pos.line)=true)
  (h:wpAny (model prog w) A (eval o env) (fun ov s₁=>∀pl,wpAny (model prog w) A (getMethod ov name pl) (fun fx s₂=>wpAny (model prog w) A (callWith pos fx.1 fx.2 (backTo pos (starEach args env)) (backToKw pos (keywordEach [] env))) Q E s₂) E s₁) E s) :
  wpAny (model prog w) A (eval (.Call (.Attribute o name apos) args [] pos) env) Q E s:=by
 rw [arm_eval_Call,hbase]
 refine wpAny_bind (wpAny_mono h (fun ov s₁ h₁=>?_) fun _ _ e=>e)
 refine wpAny_bind (wpAny_standAt ?_)
 have hform:methodCallForm (args.length+([]:List Keyword).length) (backTo pos (starEach args env)) (backToKw pos (keywordEach [] env))=true:=hfew
 have hpos:methodCallPos true o env apos pos=pure pos:=by unfold methodCallPos;simp [hline]
 unfold methodCall
 rw [hform]
 refine wpAny_bind (wpAny_holding (wpAny_mono (h₁ _) (fun fx s₂ h₂=>?_) fun _ _ e=>e))
 obtain ⟨f,first⟩:=fx
 exact wpAny_bind (wpAny_of_eq hpos h₂)
noncomputable def tMethD (X:Cx) (k:Nat) (m:Str) (ta:TE) (t:TA):TE:=fun σ H Q=>ta σ H fun x H1=>∃(a C dx:Addr) (fs:List (Str × V)) (fa:Addr) (fd:FuncData) (ps:List Str) (sp:Sp),x=.ref a/\H1 a=some (.ins C dx fs)/\Cls X.K C/\Meth X.K C m fa/\
 FnOk X.prog X.w X.K X.mg X.base CX0 k fa fd ps sp/\Binds X.K fd ps []/\fs.lookup m=none/\t σ H1 fun vs H2=>sp (x::vs) H2 Q E0
theorem pe_methD {o e:Expr} {es:List Expr} {m:Str} {ta:TE} {t:TA} {apos:Pos} (he:PE X o ta) (hr:Room k X.A) (ha:PA X (e::es) t)
  (hbase:attributeBase o m X.env (eval o X.env)=eval o X.env)
  (hfew:((backTo pos (starEach (e::es) X.env)).all (fun x=>!x.1)&&(backToKw pos (keywordEach [] X.env)).all (fun x=>x.1.isSome)
   && decide ((e::es).length+([]:List Keyword).length+(if ([]:List Keyword).isEmpty then 0 else 1)<30))=true)
  (hline:(apos.endLine == pos.line)=true) (hst:starEach (e::es) X.env=(false,eval e X.env)::starEach es X.env) (hpl:(backTo pos (starEach es X.env)).any (·.1)=false) :
  PE X (.Call (.Attribute o m apos) (e::es) [] pos) (tMethD X k m ta t):=by
 intro pins s σ H Q I h
 refine meth_any hbase hfew hline (thn (he pins s σ H _ I h) fun u s1 ⟨x,H1,I1,rx,a,C,dx,fs,fa,fd,ps,sp,ex,ea,c,hm,F,hb,l,q⟩ pl=>?_)
 subst ex
 obtain rfl:u=Value.ref a:=rx
 refine getmeth_ok I1 ea c hm l ?_
 refine PySem.W.callWith_K (first:=[.ref a]) (h₀:=X.base) I.ok.mod.kin hm.kp (thn (ha pos pins s1 σ H1 _ I1 q) fun us s2 ⟨vs,H2,I2,r,q2⟩=>⟨I2.kIn,?_⟩) hst hpl
 exact run_fn (us:=.ref a::us) (vs:=.ref a::vs) F hr hb .nil pass0 I2 (.cons rfl r) (by rw [List.append_nil];exact q2)
theorem pe_methD0 {o:Expr} {m:Str} {ta:TE} {apos:Pos} (he:PE X o ta) (hr:Room k X.A) (hbase:attributeBase o m X.env (eval o X.env)=eval o X.env) (hline:(apos.endLine == pos.line)=true) :
  PE X (.Call (.Attribute o m apos) [] [] pos) (tMethD X k m ta tNil):=by
 intro pins s σ H Q I h
 refine meth_any hbase rfl hline (thn (he pins s σ H _ I h) fun u s1 ⟨x,H1,I1,rx,a,C,dx,fs,fa,fd,ps,sp,ex,ea,c,hm,F,hb,l,q⟩ pl=>?_)
 subst ex
 obtain rfl:u=Value.ref a:=rx
 refine getmeth_ok I1 ea c hm l ?_
 exact PySem.W.callWith_K0 (first:=[.ref a]) I1.kIn hm.kp (run_fn (us:=[.ref a]) (vs:=[.ref a]) F hr hb .nil pass0 I1 (.cons rfl .nil) (by rw [List.append_nil];exact q))
noncomputable def mtB (T:Tab) (m:Str) (tb:List (Nat × Nat)):Bool:=tb.all fun p=>T.mts.contains (p.1,m,p.2)
theorem lookup_mem {tb:List (Nat × Nat)} {c f:Nat} (h:tb.lookup c=some f):(c,f)∈tb:=by
 induction tb with
 |nil=>cases h
 | cons p r ih =>
   obtain ⟨c',f'⟩:=p
   simp only [List.lookup] at h
   split at h
   · rename_i e
     cases h
     have:=eq_of_beq e
     subst this
     simp
   · exact List.mem_cons_of_mem _ (ih h)
theorem meth_imp (G:Gd T cf k N sc X) {m:Str} {tb:List (Nat × Nat)} {co:CE} {ces:CEs} {σ:L2.St} {H:Hp} {Qv:VK} {t:TA} (hm:mtB T m tb=true) (ht:∀{σ:L2.St} {H:Hp} {Qa:List V->Hp->Prop},tAs X.K cf ces σ H Qa->t σ H Qa) (h:tE X.K cf (.meth m tb co ces) σ H Qv):tMethD X k m (tE X.K cf co) t σ H Qv:=by
 obtain ⟨δ,ι,S,Q,hs,hh,w,q⟩:=h
 simp only [evE,W_bind] at w
 refine tE.run hs hh w fun d v ι1 H1 S1 x1 hs1 hh1 r1 w1=>?_
 obtain ⟨pr,ei,w2⟩:=W_lift' w1
 obtain ⟨c,fs⟩:=pr
 obtain ⟨f,ef,w3⟩:=W_lift' w2
 split at w3
 · rename_i hn
   rw [W_bind] at w3
   obtain ⟨l,rfl,hl⟩:=insOf_inv ei
   have r1':=r1
   obtain ⟨b,i1,rfl⟩:=r1
   obtain ⟨b',i2,C,dx,ws,hC,hb,rf⟩:=hh1.obj l _ hl
   rw [i1] at i2;cases i2
   have hmt:=List.all_eq_true.mp hm (c,f) (lookup_mem ef)
   obtain ⟨C',fa,fd,ps,hC',cl,me,F,bi⟩:=(G.tab.mth c m f hmt).ex
   rw [hC] at hC';cases hC'
   have hlk:ws.lookup m=none:=by
    rcases rf.look m with ⟨_,e2⟩|⟨d',v',e1,_,_⟩
    · exact e2
    · dsimp only at hn;rw [e1] at hn;cases hn
   refine ⟨b,C,dx,ws,fa,fd,ps,_,rfl,hb,cl,me,F,bi,hlk,ht ?_⟩
   refine tAs.run hs1 hh1 w3 fun ds vs ι2 H2 S2 x2 hs2 hh2 r2 w4=>?_
   unfold appW at w4
   refine ⟨ι2,S2,.ref l::ds,⟨.ref b,vs,rfl,r1'.ext x2,r2⟩,hh2,?_⟩
   obtain ⟨d,T',e,w5⟩:=W_ok' w4
   rw [e]
   exact fun v H' ι' x r hT=>q v H' (Lf.up (x1.trans x2) ⟨d,ι',T',x,r,hT,w5⟩)
 · exact w3.elim
theorem se_meth (G:Gd T cf k N sc X) {m:Str} {tb:List (Nat × Nat)} {co:CE} {ces:CEs} {o e:Expr} {es:List Expr} {apos:Pos} (hm:mtB T m tb=true) (ho:PE X o (tE X.K cf co)) (ha:PA X (e::es) (tAs X.K cf ces)) (hst:(e::es).all noStar=true) (hsup:notSup o=true) (hl:(apos.endLine == pos.line)=true) (hn:(e::es).length<29) :
  PE X (.Call (.Attribute o m apos) (e::es) [] pos) (tE X.K cf (.meth m tb co ces)):=by
 have hs:=hst
 rw [List.all_cons,Bool.and_eq_true] at hst
 refine PE.imp (pe_methD ho G.room ha (sup_of hsup m X.env _) ?_ hl (star_of hst.1 es X.env) (stars_any hst.2)) fun σ H Qv h=>meth_imp G hm (fun z=>z) h
 have h0:=stars_any (pos:=pos) (env:=X.env) hs
 have h1:(backTo pos (starEach (e::es) X.env)).all (fun x=>!x.1)=true:=by
  rw [List.all_eq_true]
  intro x hx
  have:=List.any_eq_false.mp h0 x hx
  simpa using this
 have h2:decide ((e::es).length+([]:List Keyword).length+(if ([]:List Keyword).isEmpty then 0 else 1)<30)=true:=by
  rw [decide_eq_true_eq]
  show (e::es).length+0+0<30
  omega
 rw [h1,h2]
 rfl
theorem nil_args {ces:CEs} {σ:L2.St} {H:Hp} {Qa:List V->Hp->Prop} (hc:ces=.nil) (h:tAs X.K cf ces σ H Qa):tNil σ H Qa:=by
 subst hc
 obtain ⟨δ,ι,S,Q,hs,hh,w,q⟩:=h
 exact q [] H ⟨[],ι,S,Ext.refl _ _,rfl,hh,by simpa [evEs] using w⟩
theorem se_meth0 (G:Gd T cf k N sc X) {m:Str} {tb:List (Nat × Nat)} {co:CE} {o:Expr} {apos:Pos} (hm:mtB T m tb=true) (ho:PE X o (tE X.K cf co)) (hsup:notSup o=true) (hl:(apos.endLine == pos.line)=true) :
  PE X (.Call (.Attribute o m apos) [] [] pos) (tE X.K cf (.meth m tb co .nil)):=
 PE.imp (pe_methD0 ho G.room (sup_of hsup m X.env _) hl) fun σ H Qv h=>meth_imp G hm (fun z=>nil_args rfl z) h
theorem make_imp (G:Gd T cf k N sc X) {c f:Nat} {C:Addr} {x:Str} {ces:CEs} {σ:L2.St} {H:Hp} {Qv:VK} {t:TA} (hC:Mks.cl[c]?=some C) (ht:∀{σ:L2.St} {H:Hp} {Qa:List V->Hp->Prop},tAs X.K cf ces σ H Qa->t σ H Qa) (h:tE X.K cf (.mk c f x ces) σ H Qv):tMake C (spF X.K cf f) [] E0 t σ H Qv:=by
 obtain ⟨δ,ι,S,Q,hs,hh,w,q⟩:=h
 simp only [evE,W_bind] at w
 refine ht (tAs.run hs hh w fun ds vs ι1 H1 S1 x1 hs1 hh1 r1 w1=>?_)
 intro y dy hy hdy hne
 have hh2:=hh1.new hdy (.own y)
 have x2:Ext ι1 H1 ι1 (upd H1 dy (.own y)):=Ext.new hdy _
 have hy2:(upd H1 dy (.own y)) y=none:=by rw [upd_ne (Ne.symm hne)];exact hy
 have hh3:=hh2.obj' hy2 (.ins C dy []) (.ins c []) ⟨C,dy,[],hC,upd_same,rfl⟩
 have x3:Ext ι1 (upd H1 dy (.own y)) (ι1++[y]) (upd (upd H1 dy (.own y)) y (.ins C dy [])):=Ext.obj hh2 hy2 _
 unfold appW at w1
 obtain ⟨d,T',e,w2⟩:=W_ok' w1
 rw [List.append_nil]
 refine ⟨ι1++[y],S1.push (.ins c []),.ref S1.len::ds,⟨.ref y,vs,rfl,⟨y,hh2.last y,rfl⟩,(r1.ext x2).ext x3⟩,hh3,?_⟩
 rw [e]
 intro v H' ι' x' r hT
 split at w2
 · rename_i hn
   cases d with
   | non =>
     refine ⟨r,q _ _ ⟨.ref S1.len,ι',T',((x1.trans x2).trans x3).trans x',⟨y,pre_get x'.pre (hh2.last y),rfl⟩,hT,w2⟩⟩
   |_=>cases hn
 · exact w2.elim
theorem se_mk (G:Gd T cf k N sc X) {c f:Nat} {x:Str} {ces:CEs} {e:Expr} {es:List Expr} (hi:T.inits.contains (c,f)=true) (hx:T.cls[c]?=some x) (hg:isGl sc x=true) (hd:(x == ("__debug__":Str))=false) (ha:PA X (e::es) (tAs X.K cf ces)) (hst:(e::es).all noStar=true) :
  PE X (.Call (.Name x p) (e::es) [] pos) (tE X.K cf (.mk c f x ces)):=by
 obtain ⟨C,fa,fd,ps,hC,M,F,hb⟩:=(G.tab.ini c f hi).ex
 obtain ⟨x',e1,_,hm,_⟩:=G.clsAt (.inr (.inl (ne_of hi))) hC
 rw [hx] at e1;cases e1
 rw [List.all_cons,Bool.and_eq_true] at hst
 exact PE.imp (pe_make M F G.room' (G.gl hg) hm hb .nil pass0 ha hd (star_of hst.1 es X.env) (stars_any hst.2)) fun σ H Qv h=>make_imp G hC (fun z=>z) h
theorem se_mk0 (G:Gd T cf k N sc X) {c f:Nat} {x:Str} (hi:T.inits.contains (c,f)=true) (hx:T.cls[c]?=some x) (hg:isGl sc x=true) (hd:(x == ("__debug__":Str))=false) :
  PE X (.Call (.Name x p) [] [] pos) (tE X.K cf (.mk c f x .nil)):=by
 obtain ⟨C,fa,fd,ps,hC,M,F,hb⟩:=(G.tab.ini c f hi).ex
 obtain ⟨x',e1,_,hm,_⟩:=G.clsAt (.inr (.inl (ne_of hi))) hC
 rw [hx] at e1;cases e1
 exact PE.imp (pe_make0 M F G.room' (G.gl hg) hm hb .nil pass0 hd) fun σ H Qv h=>make_imp G hC (fun z=>nil_args rfl z) h
theorem few_ok {e:Expr} {es:List Expr} {env:Env} (hs:(e::es).all noStar=true) (hn:(e::es).length<29):((backTo pos (starEach (e::es) env)).all (fun x=>!x.1)&&(backToKw pos (keywordEach [] env)).all (fun x=>x.1.isSome)
  && decide ((e::es).length+([]:List Keyword).length+(if ([]:List Keyword).isEmpty then 0 else 1)<30))=true:=by
 have h0:=stars_any (pos:=pos) (env:=env) hs
 have h1:(backTo pos (starEach (e::es) env)).all (fun x=>!x.1)=true:=by
  rw [List.all_eq_true]
  intro x hx
  have:=List.any_eq_false.mp h0 x hx
  simpa using this
 have h2:decide ((e::es).length+([]:List Keyword).length+(if ([]:List Keyword).isEmpty then 0 else 1)<30)=true:=by
  rw [decide_eq_true_eq]
  show (e::es).length+0+0<30
  omega
 rw [h1,h2]
 rfl
theorem pe_callC {x m:Str} {sp:Sp} {e:Expr} {es:List Expr} {t:TA} {apos:Pos} (Hs:HasC X.prog X.w X.K X.mg X.base k x m sp) (hr:Room k X.A) (ha:PA X (e::es) t) (hg:Gl X x) (hdb:(x == ("__debug__":Str))=false)
  (hbase:attributeBase (.Name x p) m X.env (eval (.Name x p) X.env)=eval (.Name x p) X.env) (hst:(e::es).all noStar=true) (hn:(e::es).length<29) (hline:(apos.endLine == pos.line)=true) :
  PE X (.Call (.Attribute (.Name x p) m apos) (e::es) [] pos) (tCall sp [] E0 t):=by
 obtain ⟨C,fa,fd,ps,mc,hm,h1,h2,h3,h4,F,hb⟩:=Hs.ex
 have hst2:=hst
 rw [List.all_cons,Bool.and_eq_true] at hst2
 intro pins s σ H Q I h
 refine meth_any hbase (few_ok hst hn) hline (thn (pe_glob (v:=.ref C) hg hm rfl hdb pins s σ H (fun v H1=>v=.ref C/\tCall sp [] E0 t σ H1 Q) I ⟨rfl,h⟩) fun u s1 ⟨xv,H1,I1,rx,ex,q⟩ pl=>?_)
 subst ex
 obtain rfl:u=Value.ref C:=rx
 refine PySem.W.method_cls I1.kIn h1 (PySem.W.cls_value I1.kIn h2 h3 rfl ?_)
 refine PySem.W.callWith_K (first:=[]) (h₀:=X.base) I.ok.mod.kin h4 (thn (ha pos pins _ σ H1 _ (I1.tok _) q) fun us s2 ⟨vs,H2,I2,r,q2⟩=>⟨I2.kIn,?_⟩) (star_of hst2.1 es X.env) (stars_any hst2.2)
 exact run_fn (us:=us) (vs:=vs) F hr hb .nil pass0 I2 r q2
theorem callC_args {f:Nat} {x m:Str} {ces:CEs} {σ:L2.St} {H:Hp} {Qv:VK} (h:tE X.K cf (.callC f x m ces) σ H Qv):tCall (spF X.K cf f) [] E0 (tAs X.K cf ces) σ H Qv:=by
 obtain ⟨δ,ι,S,Q,hs,hh,w,q⟩:=h
 simp only [evE,W_bind] at w
 refine tAs.run hs hh w fun ds vs ι1 H1 S1 x1 hs1 hh1 r1 w1=>?_
 unfold appW at w1
 rw [List.append_nil]
 refine ⟨ι1,S1,ds,r1,hh1,?_⟩
 obtain ⟨d,T',e,w2⟩:=W_ok' w1
 rw [e]
 exact fun v H' ι' x r hT=>q v H' (Lf.up x1 ⟨d,ι',T',x,r,hT,w2⟩)
theorem se_callC (G:Gd T cf k N sc X) {f:Nat} {x m:Str} {ces:CEs} {e:Expr} {es:List Expr} {apos:Pos} (hc:T.cms.contains (x,m,f)=true) (hg:isGl sc x=true) (hd:(x == ("__debug__":Str))=false) (hsup:notSup (.Name x p)=true) (ha:PA X (e::es) (tAs X.K cf ces)) (hst:(e::es).all noStar=true) (hn:(e::es).length<29) (hl:(apos.endLine == pos.line)=true) :
  PE X (.Call (.Attribute (.Name x p) m apos) (e::es) [] pos) (tE X.K cf (.callC f x m ces)):=
 PE.imp (pe_callC (G.tab.cmd x m f hc) G.room ha (G.gl hg) hd (sup_of hsup m X.env _) hst hn hl) fun σ H Qv h=>callC_args h
end
end R
end
section
namespace R
open PySem PySem.Spec PyProof.Rows L2
variable [Mks]
section
variable {prog:Program} {w:World} {A:Around} {E:Value->Shared->Prop} {s:Shared}
end
section
variable {T:Tab} {cf:CF} {k:Nat} {N:List Str} {sc:Scope} {X:Cx} {pos p:Pos}
inductive PartOk (X:Cx) (cf:CF):Bool->CE->Option Expr->Prop where
 |no {c:CE} (h:∃d,c=.con d):PartOk X cf false c none
 |yes {c:CE} {e:Expr} (h:PE X e (tE X.K cf c)):PartOk X cf true c (some e)
end
end R
end
section
namespace R
open PySem PySem.Spec PyProof.Rows L2
variable [Mks]
noncomputable def rB (K:PySem.W.Frag) (f:R.St->List D->Out D):List V->Hp->VK->Prop:=fun xs H Qv=>∃ι S ds Qd,RVs K ι H ds xs/\RH K ι H S/\W (f S ds) Qd/\∀v H',Lf K ι H Qd v H'->Qv v H'
section
variable {T:Tab} {cf:CF} {k:Nat} {N:List Str} {sc:Scope} {X:Cx} {pos p:Pos}
theorem RVs.one {K:PySem.W.Frag} {ι:List Addr} {H:Hp} {d:D} {xs:List V} (r:RVs K ι H [d] xs):∃v,xs=[v]/\RV K ι H d v:=by
 obtain ⟨v,w,rfl,r1,r2⟩:=r
 cases (show w=[] from r2)
 exact ⟨v,rfl,r1⟩
theorem RVs.two {K:PySem.W.Frag} {ι:List Addr} {H:Hp} {d e:D} {xs:List V} (r:RVs K ι H [d,e] xs):∃v u,xs=[v,u]/\RV K ι H d v/\RV K ι H e u:=by
 obtain ⟨v,w,rfl,r1,r2⟩:=r
 obtain ⟨u,rfl,r3⟩:=RVs.one r2
 exact ⟨v,u,rfl,r1,r3⟩
theorem len_ok:CallR X (.builtin "len") (rB X.K fun S ds=>R.bi S .len ds):=by
 intro pins s σ H xs us Qv I rv ⟨ι,S,ds,Qd,r,hh,w,q⟩
 dsimp only at w
 unfold bi at w
 split at w
 case h_1 x=>
  obtain ⟨v,rfl,rr⟩:=r.one
  split at w
  · obtain ⟨a,xs,rfl,ha,r2⟩:=rr
    refine call_len_seq pins s σ H _ us Qv I rv ⟨a,xs,rfl,.inr (SqT.of ha),?_⟩
    rw [r2.length]
    exact q _ _ (Lf.of (d:=.int _) hh rfl w)
  · obtain ⟨a,xs,rfl,ha,r2⟩:=rr
    refine call_len_seq pins s σ H _ us Qv I rv ⟨a,xs,rfl,.inl ha.sq,?_⟩
    rw [r2.length]
    exact q _ _ (Lf.of (d:=.int _) hh rfl w)
  · rename_i l
    obtain ⟨a,h1,rfl⟩:=rr
    cases e:S.get l with
    |none=>rw [e] at w;exact w.elim
    | some o =>
      rw [e] at w
      obtain ⟨b,h2,h3⟩:=hh.obj _ _ e
      rw [h1] at h2;cases h2
      cases o with
      | lst ds =>
        obtain ⟨xs,ha,r2⟩:=h3
        refine call_len_seq pins s σ H _ us Qv I rv ⟨a,xs,rfl,.inl (SqL.of ha),?_⟩
        rw [r2.length]
        exact q _ _ (Lf.of (d:=.int _) hh rfl w)
      | dic kvs =>
        obtain ⟨rfl,ha⟩:=h3
        exact call_lenD pins s σ H _ us Qv I rv ⟨a,[],rfl,ha,q _ _ (Lf.of (d:=.int _) hh rfl w)⟩
      |ins _ _=>exact w.elim
      |dtp _=>exact w.elim
  · exact w.elim
 all_goals first|exact w.elim|(rename_i h;cases h)
theorem abs_ok:CallR X (.builtin "abs") (rB X.K fun S ds=>R.bi S .abs ds):=by
 intro pins s σ H xs us Qv I rv ⟨ι,S,ds,Qd,r,hh,w,q⟩
 dsimp only at w
 unfold bi at w
 split at w
 case h_2 i _=>
  obtain ⟨v,rfl,rr⟩:=r.one
  obtain rfl:v=.int i:=rr
  exact call_abs pins s σ H _ us Qv I rv ⟨i,rfl,q _ _ (Lf.of (d:=.int _) hh rfl w)⟩
 all_goals first|exact w.elim|(rename_i h;cases h)
theorem max_ok (hc:X.calm=true):CallR X (.builtin "max") (rB X.K fun S ds=>R.bi S .max2 ds):=by
 intro pins s σ H xs us Qv I rv ⟨ι,S,ds,Qd,r,hh,w,q⟩
 dsimp only at w
 unfold bi at w
 split at w
 case h_3 i j _=>
  obtain ⟨v,u,rfl,r1,r2⟩:=r.two
  obtain rfl:v=.int i:=r1
  obtain rfl:u=.int j:=r2
  exact call_max2 hc pins s σ H _ us Qv I rv ⟨i,j,rfl,q _ _ (Lf.of (d:=.int _) hh rfl w)⟩
 all_goals first|exact w.elim|(rename_i h;cases h)
theorem min_ok (hc:X.calm=true):CallR X (.builtin "min") (rB X.K fun S ds=>R.bi S .min2 ds):=by
 intro pins s σ H xs us Qv I rv ⟨ι,S,ds,Qd,r,hh,w,q⟩
 dsimp only at w
 unfold bi at w
 split at w
 case h_4 i j _=>
  obtain ⟨v,u,rfl,r1,r2⟩:=r.two
  obtain rfl:v=.int i:=r1
  obtain rfl:u=.int j:=r2
  exact call_min2 hc pins s σ H _ us Qv I rv ⟨i,j,rfl,q _ _ (Lf.of (d:=.int _) hh rfl w)⟩
 all_goals first|exact w.elim|(rename_i h;cases h)
theorem blt_of (G:Gd T cf k N sc X) {x:Str} (h:bltB T sc x=true):Gl X x/\X.mg x=none:=by
 unfold bltB at h
 rw [Bool.and_eq_true] at h
 exact ⟨G.gl h.1,G.tab.blt x h.2⟩
theorem se_bi {b:Bi} {id:String} {x:Str} {ces:CEs} {e:Expr} {es:List Expr} (hc:CallR X (.builtin id) (rB X.K fun S ds=>R.bi S b ds)) (hg:Gl X x/\X.mg x=none) (hv:bootBuiltins x=some (.builtin id)) (ha:PA X (e::es) (tAs X.K cf ces)) (hst:(e::es).all noStar=true) (hn:x≠"__name__") (hdb:(x == ("__debug__":Str))=false) :
  PE X (.Call (.Name x p) (e::es) [] pos) (tE X.K cf (.bi b ces)):=by
 rw [List.all_cons,Bool.and_eq_true] at hst
 refine PE.imp (pe_callB hc hg.1 hg.2 hv ha hn hdb (star_of hst.1 es X.env) (stars_any hst.2)) fun σ H Qv ⟨δ,ι,S,Q,hs,hh,w,q⟩=>?_
 simp only [evE,W_bind] at w
 refine tAs.run hs hh w fun ds vs ι1 H1 S1 x1 hs1 hh1 r1 w1=>?_
 exact ⟨ι1,S1,ds,Q,r1,hh1,w1,fun v H' l=>q v H' (Lf.up x1 l)⟩
theorem tyOf_ok {ι:List Addr} {H:Hp} {S:R.St} {d:D} {v:V} {a:String} (hh:RH X.K ι H S) (r:RV X.K ι H d v) (h:tyOf S d=some a):tyName H v=some a:=by
 cases d with
 |non=>obtain rfl:v=.non:=r;exact h
 |bl b=>obtain rfl:v=.bl b:=r;exact h
 |int b=>obtain rfl:v=.int b:=r;exact h
 |str b=>obtain rfl:v=.str b:=r;exact h
 | tup ds =>
   obtain ⟨p,xs,rfl,ha,_⟩:=r
   simp only [tyOf] at h
   simp only [tyName,ha]
   exact h
 | ref l =>
   obtain ⟨p,h1,rfl⟩:=r
   simp only [tyOf] at h
   simp only [tyName]
   cases e:S.get l with
   |none=>rw [e] at h;cases h
   | some o =>
     rw [e] at h
     obtain ⟨b,h2,h3⟩:=hh.obj _ _ e
     rw [h1] at h2;cases h2
     cases o with
     |lst ds=>obtain ⟨xs,ha,_⟩:=h3;rw [ha];exact h
     |dic kvs=>rw [h3.2];exact h
     |ins _ _=>cases h
     |dtp kvs=>obtain ⟨_,ws,ha,_⟩:=h3;rw [ha];exact h
 |fix ds=>cases h
theorem se_isin (G:Gd T cf k N sc X) {t:String} {y:Str} {p2:Pos} {ce:CE} {e:Expr} (hg:Gl X "isinstance"/\X.mg "isinstance"=none) (hy:Gl X y/\X.mg y=none) (hb:bootBuiltins y=some (.type t)) (ht:t∈["bool","int","str","list","tuple","dict"]) (hyn:y≠"__name__") (hyd:(y == ("__debug__":Str))=false)
  (he:PE X e (tE X.K cf ce)) (hst:noStar e=true):PE X (.Call (.Name "isinstance" p) [e,.Name y p2] [] pos) (tE X.K cf (.bi (.isin t) (.cons ce .nil))):=by
 refine PE.imp (pe_callB call_isinst hg.1 hg.2 bb_isinstance (pa_cons he (pa_cons (pe_bltn (v:=.ty t) hy.1 hy.2 hb rfl hyn hyd) pa_nil) (star_of hst _ X.env)) (by decide) (by decide) (star_of hst _ X.env)) fun σ H Qv ⟨δ,ι,S,Q,hs,hh,w,q⟩=>?_
 simp only [evE,evEs,W_bind,W_ok] at w
 refine tE.run hs hh w fun d v ι1 H1 S1 x1 hs1 hh1 r1 w1=>?_
 simp only [bi] at w1
 cases e:tyOf S1 d with
 |none=>rw [e] at w1;exact w1.elim
 | some a =>
   rw [e] at w1
   exact ⟨v,t,a,rfl,tyOf_ok hh1 r1 e,ht,q _ _ (Lf.up x1 (Lf.of (d:=.bl _) hh1 rfl w1))⟩
theorem isL_ok {ι:List Addr} {H:Hp} {S:R.St} {d:D} {v:V} (hh:RH X.K ι H S) (r:RV X.K ι H d v) (h:isL S d=true):tyV X.K "list" v H:=by
 cases d with
 | ref l =>
   obtain ⟨p,h1,rfl⟩:=r
   simp only [isL] at h
   cases e:S.get l with
   |none=>rw [e] at h;cases h
   | some o =>
     rw [e] at h
     obtain ⟨b,h2,h3⟩:=hh.obj _ _ e
     rw [h1] at h2;cases h2
     cases o with
     |lst ds=>obtain ⟨xs,ha,_⟩:=h3;exact .inl ⟨rfl,xs,SqL.of ha⟩
     |_=>cases h
 |_=>cases h
noncomputable def rM (K:PySem.W.Frag) (m:Mt):V->List V->Hp->VK->Prop:=fun x xs H Qv=>∃ι S d ds Qd,RV K ι H d x/\RVs K ι H ds xs/\RH K ι H S/\W (R.mt S m d ds) Qd/\∀v H',Lf K ι H Qd v H'->Qv v H'
theorem append_ok:MtR X "list.append" (rM X.K .append):=by
 intro pins s σ H x xs v us Qv I rx rv ⟨ι,S,d,ds,Qd,r,rs,hh,w,q⟩
 unfold R.mt at w
 split at w
 case h_1 l y _=>
  obtain ⟨a,h1,rfl⟩:=r
  obtain ⟨u,rfl,ru⟩:=rs.one
  cases e:S.get l with
  |none=>rw [e] at w;exact w.elim
  | some o =>
    rw [e] at w
    obtain ⟨b,h2,h3⟩:=hh.obj _ _ e
    rw [h1] at h2;cases h2
    cases o with
    | lst ds =>
      obtain ⟨zs,ha,r2⟩:=h3
      obtain ⟨c,S',hp,w2⟩:=wr_ex w
      refine mt_append pins s σ H _ _ v us Qv I rx rv ⟨a,zs,u,rfl,rfl,ha,?_,?_⟩
      · rw [r2.length]
        rw [List.length_append,List.length_singleton] at c
        omega
      · exact q _ _ (Lf.wr (d:=.non) hh e h1 hp (r2.append ⟨u,[],rfl,ru,rfl⟩) rfl w2)
    |_=>exact w.elim
 all_goals first|exact w.elim|(rename_i h;cases h)
theorem popAt_ok:MtR X "list.pop" (rM X.K .popAt):=by
 intro pins s σ H x xs v us Qv I rx rv ⟨ι,S,d,ds,Qd,r,rs,hh,w,q⟩
 unfold R.mt at w
 split at w
 case h_2 l i _=>
  obtain ⟨a,h1,rfl⟩:=r
  obtain ⟨u,rfl,ru⟩:=rs.one
  obtain rfl:u=.int i:=ru
  cases e:S.get l with
  |none=>rw [e] at w;exact w.elim
  | some o =>
    rw [e] at w
    obtain ⟨b,h2,h3⟩:=hh.obj _ _ e
    rw [h1] at h2;cases h2
    cases o with
    | lst ds =>
      obtain ⟨zs,ha,r2⟩:=h3
      dsimp only at w
      split at w
      · rename_i c0
        cases ey:ds[i.toNat]? with
        |none=>rw [ey] at w;exact w.elim
        | some y =>
          rw [ey] at w
          obtain ⟨c,S',hp,w2⟩:=wr_ex w
          obtain ⟨u,eu,ru⟩:=r2.get ey
          have hlt:i.toNat<zs.length:=(List.getElem?_eq_some_iff.mp eu).1
          have hz:zs.length<=sizeLine:=(I.lstM ha).1
          rw [sizeLine_eq] at hz
          refine mt_popAt pins s σ H _ _ v us Qv I rx rv ⟨a,zs,i,i.toNat,u,rfl,rfl,ha,by omega,by omega,?_,eu,?_⟩
          · exact PySem.StrLaws.seqIndex_nonneg c0 (by omega)
          · exact q _ _ (Lf.wr (d:=y) hh e h1 hp (r2.erase _) ru w2)
      · exact w.elim
    |_=>exact w.elim
 all_goals first|exact w.elim|(rename_i h;cases h)
theorem words_get:∀{ds:List D} {os:List (Option Int)},wordsOf ds=some os->ds=os.map fun o=>match o with|some i=>D.int i|none=>D.non:=by
 intro ds
 unfold wordsOf
 induction ds with
 |nil=>intro os h;simp at h;subst h;rfl
 | cons d ds ih =>
   intro os h
   obtain ⟨y,r,h1,h2,rfl⟩:=mapM_cons_some h
   rw [ih h2]
   cases d<;>simp [wordOf] at h1<;>subst h1<;>rfl
noncomputable def wV:Option Int->V
 |some i=>.int i
 |none=>.non
theorem words_vs {K:PySem.W.Frag} {ι:List Addr} {H:Hp}:∀{os:List (Option Int)} {vs:List V},RVs K ι H (os.map fun o=>match o with|some i=>D.int i|none=>D.non) vs->vs=os.map wV
 | [],_,h=>h
 | o :: os, vs, h => by
   obtain ⟨v,r,rfl,h1,h2⟩:=h
   rw [words_vs h2]
   cases o<;>rw [show v=_ from h1]<;>rfl
noncomputable def isI (i:Int):Value->Bool
 |.int j _=>j == i
 |_=>false
theorem count_vals (i:Int):∀{os:List (Option Int)} {us:List Value},Vals (os.map wV) us->(∀y∈us,y=Value.none\/∃a u,y=Value.int a u)/\us.countP (isI i)=os.count (some i)
 | [],us,r=>by cases r;exact ⟨fun y hy=>by simp at hy,rfl⟩
 | o :: os, us, r => by
   cases r with
   | @cons _ u _ us r1 r2 =>
     obtain ⟨h1,h2⟩:=count_vals i r2
     cases o with
     | none =>
       obtain rfl:u=Value.none:=r1
       refine ⟨fun y hy=>?_,?_⟩
       · rcases List.mem_cons.mp hy with rfl|hy
         · exact .inl rfl
         · exact h1 y hy
       · rw [List.countP_cons,List.count_cons,h2];simp [isI]
     | some j =>
       obtain ⟨t,rfl⟩:∃t,u=Value.int j t:=r1
       refine ⟨fun y hy=>?_,?_⟩
       · rcases List.mem_cons.mp hy with rfl|hy
         · exact .inr ⟨_,_,rfl⟩
         · exact h1 y hy
       · rw [List.countP_cons,List.count_cons,h2];simp [isI]
theorem count_ok:MtR X "list.count" (rM X.K .count):=by
 intro pins s σ H x xs v us Qv I rx rv ⟨ι,S,d,ds,Qd,r,rs,hh,w,q⟩
 unfold R.mt at w
 split at w
 case h_3 l i _=>
  obtain ⟨a,h1,rfl⟩:=r
  obtain ⟨u,rfl,ru⟩:=rs.one
  obtain rfl:u=.int i:=ru
  cases e:S.get l with
  |none=>rw [e] at w;exact w.elim
  | some o =>
    rw [e] at w
    obtain ⟨b,h2,h3⟩:=hh.obj _ _ e
    rw [h1] at h2;cases h2
    cases o with
    | lst ds =>
      obtain ⟨zs,ha,r2⟩:=h3
      dsimp only at w
      cases e2:wordsOf ds with
      |none=>rw [e2] at w;exact w.elim
      | some os =>
        rw [e2] at w
        rw [words_get e2] at r2
        cases words_vs r2
        obtain ⟨its,rz,pl,_⟩:=I.list (SqL.of ha)
        obtain ⟨u1,rfl,ru1⟩:=Vals.one rv
        obtain ⟨t,rfl⟩:=ru1
        cases rx
        obtain ⟨c1,c2⟩:=count_vals i rz
        have hl:=pl.isList
        obtain ⟨⟨cls,dd,data,sl⟩,ho,hc,n,hd⟩:=id hl
        simp only at hc hd
        subst hc hd
        refine call_meets PySem.F.slot_list_count ⟨_,ho,rfl⟩ PySem.F.entry_list_count (PySem.F.args_list_count_2 _ _) (PySem.SeqAt.list_countAt a its.toArray n dd sl (.int i t) (isI i)) ⟨ho,fun y hy=>?_,?_⟩
        · rcases c1 y (by simpa using hy) with rfl|⟨j,u,rfl⟩
          · exact PySem.SeqAt.EqAt.none_int i t
          · exact PySem.SeqAt.EqAt.int_int j u i t
        · rw [show its.toArray.toList=its from rfl,c2]
          exact ⟨.int _,H,I.tok _,⟨_,rfl⟩,q _ _ (Lf.of (d:=.int _) hh rfl w)⟩
    |_=>exact w.elim
 all_goals first|exact w.elim|(rename_i h;cases h)
theorem se_mt {m:Mt} {id:String} {name:Str} {co ce:CE} {o e:Expr} {apos cpos:Pos} (slot:Slot "list" name id) (hty:typeOf (.builtin id)=pure (.type "method_descriptor")) (hm:MtR X id (rM X.K m)) (ho:PE X o (tE X.K cf co)) (he:PE X e (tE X.K cf ce)) (hst:noStar e=true) (hsup:notSup o=true) (hl:(apos.endLine == cpos.line)=true) :
  PE X (.Call (.Attribute o name apos) [e] [] cpos) (tE X.K cf (.mt m co (.cons ce .nil))):=by
 refine PE.imp (pe_bm PySem.F.plainAttrs_list slot hty hm ho (sa_cons he sa_nil hst) (sup_of hsup name X.env _) (by rw [star_of hst];rfl) hl (star_of hst [] X.env)) fun σ H Qv ⟨δ,ι,S,Q,hs,hh,w,q⟩=>?_
 simp only [evE,W_bind] at w
 refine tE.run hs hh w fun d v ι1 H1 S1 x1 hs1 hh1 r1 w1=>?_
 split at w1
 · rename_i c
   refine ⟨isL_ok hh1 r1 c,?_⟩
   rw [W_bind] at w1
   refine tAs.run hs1 hh1 w1 fun ds vs ι2 H2 S2 x2 hs2 hh2 r2 w2=>?_
   exact ⟨ι2,S2,d,ds,Q,r1.ext x2,r2,hh2,w2,fun z H3 l=>q z H3 (Lf.up (x1.trans x2) l)⟩
 · exact w1.elim
end
end R
end
section
namespace R
open PySem PySem.Spec PyProof.Rows L2
variable [Mks]
section
variable {T:Tab} {cf:CF} {k:Nat} {N:List Str} {sc:Scope} {X:Cx} {pos p:Pos}
theorem SqK.seq {K:PySem.W.Frag} {ι:List Addr} {H:Hp} {S:R.St} {a:Addr} {xs:List V} {ds:List D} {lks:List Nat} (h:SqK K ι H S a xs ds lks):SqL K H a xs\/SqT K H a xs:=by
 cases h with
 |tmp h e=>exact .inl (SqL.of e)
 |tup e=>exact .inr (SqT.of e)
 |fix e=>exact .inl e.sq
 |own l hl hi hs e=>exact .inl (SqL.of e)
theorem sl_val {ce:CE} {e:Expr} (he:PE X e (tE X.K cf ce)):PE X e (tL X.K cf (.val ce)):=by
 refine PE.imp he fun σ H Qv ⟨δ,ι,S,Q,hs,hh,w,q⟩=>?_
 simp only [evL,W_bind] at w
 refine tE.run hs hh w fun d v ι1 H1 S1 x1 hs1 hh1 r1 w1=>?_
 obtain ⟨ds,eq,w2⟩:=W_lift' w1
 refine q v H1 ⟨ds,lkOf S1 d,ι1,S1,x1,?_,hh1,w2⟩
 cases d with
 | tup es =>
   cases eq
   obtain ⟨a,xs,rfl,ha,rr⟩:=r1
   exact ⟨a,xs,rfl,rr,.tup ha⟩
 | fix es =>
   cases eq
   obtain ⟨a,xs,rfl,ha,rr⟩:=r1
   exact ⟨a,xs,rfl,rr,.fix ha⟩
 | ref l =>
   simp only [seqOf] at eq
   split at eq
   · rename_i ds' e
     cases eq
     obtain ⟨a,h1,rfl⟩:=r1
     obtain ⟨a2,h2,xs,ha,rr⟩:=hh1.obj _ _ e
     rw [h1] at h2;cases h2
     exact ⟨a,xs,rfl,rr,.own l (by simp [lkOf]) h1 e ha⟩
   · cases eq
 |_=>cases eq
theorem one_arg {e:Expr} {te:TE} (he:PE X e te) (hst:noStar e=true):PA X [e] (tCons te tNil):=pa_cons he pa_nil (star_of hst [] X.env)
theorem se_mkL (G:Gd T cf k N sc X) {cl:CL} {e:Expr} (hg:Gl X "list"/\X.mg "list"=none) (he:PE X e (tL X.K cf cl)) (hst:noStar e=true):PE X (.Call (.Name "list" p) [e] [] pos) (tE X.K cf (.mkL cl)):=by
 refine PE.imp (pe_callTy call_list_of hg.1 hg.2 bb_list (one_arg he hst) (by decide) (by decide) (star_of hst [] X.env)) fun σ H Qv ⟨δ,ι,S,Q,hs,hh,w,q⟩=>?_
 simp only [evE,W_bind] at w
 refine tL.run hs hh w fun ds lks v ι1 H1 S1 x1 hs1 hh1 sq w1=>?_
 obtain ⟨c,w2⟩:=lay_ex w1
 obtain ⟨a,xs,rfl,rr,kd⟩:=sq
 exact ⟨a,xs,rfl,kd.seq,fun l hl=>q _ _ (Lf.up x1 (Lf.lst hh1 hl rr w2))⟩
theorem mkC_imp {cl:CL} {σ:L2.St} {H:Hp} {Qv:VK} (h:tE X.K cf (.mkL cl) σ H Qv):tLt X.K cf cl σ H Qv:=by
 obtain ⟨δ,ι,S,Q,hs,hh,w,q⟩:=h
 simp only [evE,W_bind] at w
 refine tLt.run hs hh w fun ds p xs ι1 H1 S1 x1 hs1 hh1 r1 hp e hn w1=>?_
 obtain ⟨c,w2⟩:=lay_ex w1
 refine q _ _ ⟨.ref S1.len,ι1++[p],S1.push (.lst ds),?_,⟨p,hh1.last p,rfl⟩,hh1.one (l:=0) hp ⟨xs,e,r1.up (List.prefix_append _ _) (Kp.refl _)⟩,w2⟩
 refine ⟨x1.pre.trans (List.prefix_append _ _),x1.kp,fun b o hb eb=>⟨(x1.rest b o hb eb).1,fun z=>?_⟩⟩
 rcases List.mem_append.mp z with z|z
 · exact (x1.rest b o hb eb).2 z
 · simp at z
   subst z
   rw [hn] at eb;cases eb
end
end R
end
section
set_option maxHeartbeats 4000000
namespace R
open PySem PySem.Spec PyProof.Rows L2
variable [Mks]
section
variable {T:Tab} {cf:CF} {k:Nat} {N:List Str} {sc:Scope} {X:Cx} {pos p:Pos}
theorem bb_range:bootBuiltins "range"=some (.type "range"):=by decide +kernel
theorem range_obj:CallR X (.type "range") (fun xs H Q=>∃j,xs=[.int j]/\∀p,H p=none->Q (.ref p) (upd H p (.rng 0 j))):=by
 intro pins s σ H xs us Q I r h
 obtain ⟨j,rfl,q⟩:=h
 obtain ⟨u,rfl,ru⟩:=r.one
 obtain ⟨t,rfl⟩:=ru
 refine call_range_1 ⟨.ref s.heap.objs.size,_,I.laid (o:=.rng 0 j) (fun b ob e=>Heap.get?_push_of_some _ e) (Nat.le_refl _) ?_,rfl,q _ (I.hok.fresh (Nat.le_refl _))⟩
 exact ⟨_,_,_,Heap.get?_push_size _ rfl⟩
theorem list_rng (hc:X.calm=true):CallR X (.type "list") (fun xs H Q=>∃p hi,xs=[.ref p]/\H p=some (.rng 0 hi)/\-(2 ^ 62)<=hi/\hi<2 ^ 62/\hi.toNat<=16777216/\∀l,H l=none->Q (.ref l) (upd H l (.lst ((List.range hi.toNat).map fun (j:Nat)=>.int j)))):=by
 intro pins s σ H xs us Q I r h
 obtain ⟨p,hi,rfl,hp,h1,h2,h3,q⟩:=h
 obtain ⟨u,rfl,ru⟩:=r.one
 cases (show u=Value.ref p from ru)
 obtain ⟨t,t2,t3,e⟩:=(show ObjOk X.prog X.w H s.heap p (.rng 0 hi) from I.hok p _ hp)
 have hn:Builtin.Range.rangeSize 0 hi 1=(hi.toNat:Nat):=by rw [rangeSize_one];split<;>omega
 refine call_list_range (I.ok.hd hc) e (small_one (by decide) (by decide) h1 h2) hn h3 fun h' tk acc c kp hg it=>?_
 refine ⟨.ref s.heap.objs.size,_,I.laid (o:=.lst _) kp (Nat.le_refl _) ⟨?_,acc.toList,c,?_,?_⟩,rfl,q _ (I.hok.fresh (Nat.le_refl _))⟩
 · rw [List.length_map,List.length_range,sizeLine_eq];exact h3
 · have key:∀(n:Nat) (us:List Value),us.length=n->(∀(j:Nat) (v:Value),us[j]?=some v->∃t,v=Value.int (0+(j:Int) * 1) t)->Vals ((List.range n).map fun (j:Nat)=>V.int j) us:=by
    intro n
    induction n with
    | zero => intro us hl _; cases us with
      |nil=>exact .nil
      |cons _ _=>simp at hl
    | succ n ih =>
      intro us hl hv
      have hne:us≠[]:=by intro z;subst z;simp at hl
      have hd:us=us.dropLast++[us.getLast hne]:=(List.dropLast_concat_getLast hne).symm
      rw [List.range_succ,List.map_append,hd]
      have hdl:us.dropLast.length=n:=by simp [hl]
      refine Vals.append (ih _ hdl fun j v e=>hv j v ?_) (.cons ?_ .nil)
      · have hj:j<us.dropLast.length:=(List.getElem?_eq_some_iff.mp e).1
        rw [hd,List.getElem?_append_left hj];exact e
      · obtain ⟨t,e⟩:=hv n (us.getLast hne) (by
         conv=>lhs;rw [hd]
         rw [List.getElem?_append_right (by omega)]
         simp [hdl])
        exact ⟨t,by simpa using e⟩
   exact key _ _ (by simpa using it.1) fun j v e=>it.2 j v (by simpa using e)
 · simpa using hg
theorem se_mkR1 (G:Gd T cf k N sc X) {ca:CE} {a:Expr} {p2:Pos} (hg:Gl X "list"/\X.mg "list"=none) (hr:Gl X "range"/\X.mg "range"=none) (ha:PE X a (tE X.K cf ca)) (hst:noStar a=true) :
  PE X (.Call (.Name "list" p) [.Call (.Name "range" p2) [a] [] pos'] [] pos) (tE X.K cf (.mkL (.rng1 ca))):=by
 have hin:=pe_callTy (p:=p2) (pos:=pos') range_obj hr.1 hr.2 bb_range (one_arg ha hst) (by decide) (by decide) (star_of hst [] X.env)
 refine PE.imp (pe_callTy (list_rng G.calm) hg.1 hg.2 bb_list (one_arg hin rfl) (by decide) (by decide) rfl) fun σ H Qv ⟨δ,ι,S,Q,hs,hh,w,q⟩=>?_
 simp only [evE,evL,W_bind] at w
 refine tE.run hs hh w fun d v ι1 H1 S1 x1 hs1 hh1 r1 w1=>?_
 cases d with
 | int j =>
   obtain rfl:v=.int j:=r1
   dsimp only at w1
   split at w1
   · rename_i c
     obtain ⟨c2,w2⟩:=lay_ex w1
     refine ⟨j,rfl,fun pr hpr=>⟨pr,j,rfl,upd_same,c.1,c.2,by simpa [sizeLine_eq] using c2,fun l hl=>?_⟩⟩
     have hh2:=hh1.new hpr (.rng 0 j)
     refine q _ _ (Lf.up (x1.trans (Ext.new hpr _)) (Lf.lst hh2 hl ?_ w2))
     have:=RVs.ints (K:=X.K) (ι:=ι1) (H:=upd H1 pr (.rng 0 j)) ((List.range j.toNat).map fun (m:Nat)=>(m:Int))
     rw [List.map_map,List.map_map] at this
     exact this
   · exact w1.elim
 |_=>exact w1.elim
theorem boolsOf {ds:List D} {bs:List Bool} (h:ds.mapM boolOf=some bs):ds=bs.map D.bl:=by
 induction ds generalizing bs with
 | nil =>
   have h:bs=[]:=by simpa using h.symm
   subst h;rfl
 | cons d ds ih =>
   obtain ⟨y,r,h1,h2,rfl⟩:=mapM_cons_some h
   cases d<;>simp [boolOf] at h1
   subst h1
   rw [ih h2];rfl
theorem RVs.bls_eq {K:PySem.W.Frag} {ι:List Addr} {H:Hp}:∀{bs:List Bool} {vs:List V},RVs K ι H (bs.map D.bl) vs->vs=bs.map V.bl
 | [],_,h=>h
 | b :: bs, vs, h => by
   obtain ⟨v,r,rfl,h1,h2⟩:=h
   rw [RVs.bls_eq h2,show v=.bl b from h1];rfl
theorem vals_bl {bs:List Bool} {us:List Value} (r:Vals (bs.map V.bl) us):us=bs.map Value.bool:=by
 induction bs generalizing us with
 |nil=>cases r;rfl
 | cons b bs ih =>
   cases r with
   |cons r1 r2=>rw [ih r2,show _=Value.bool b from r1];rfl
theorem all_range (bs:List Bool):(List.range bs.length).all (fun i=>bs.getD i false)=bs.all id:=by
 rw [Bool.eq_iff_iff,List.all_eq_true,List.all_eq_true]
 constructor
 · intro h b hb
   obtain ⟨i,hi,e⟩:=List.getElem_of_mem hb
   have:=h i (by simpa using hi)
   rw [List.getD_eq_getElem?_getD,List.getElem?_eq_getElem hi,e] at this
   exact this
 · intro h i hi
   have hi:i<bs.length:=by simpa using hi
   rw [List.getD_eq_getElem?_getD,List.getElem?_eq_getElem hi]
   exact h _ (List.getElem_mem hi)
theorem all_seq (hc:X.calm=true):CallR X (.builtin "all") (fun xs H Q=>∃(a:Addr) (bs:List Bool),xs=[.ref a]/\(SqL X.K H a (bs.map V.bl)\/SqT X.K H a (bs.map V.bl))/\Q (.bl (bs.all id)) H):=by
 intro pins s σ H xs us Q I r h
 obtain ⟨a,bs,rfl,hq,q⟩:=h
 obtain ⟨u,rfl,ru⟩:=r.one
 cases (show u=Value.ref a from ru)
 have hA:X.A.in1.in1.handled=none:=I.ok.hd hc
 have hA1:X.A.in1.handled=none:=I.ok.hd hc
 have tr:∀(items:Array Value),items.toList=bs.map Value.bool->TruthOf X.prog X.w X.A.in1 (fun i v=>items[i]?=some v) (fun i=>bs.getD i false):=by
  intro items e i v s' Q' E' hv hQ
  have hv':items.toList[i]?=some v:=by rw [Array.getElem?_toList];exact hv
  rw [e,List.getElem?_map] at hv'
  cases z:bs[i]? with
  |none=>rw [z] at hv';cases hv'
  | some b =>
    rw [z] at hv'
    simp only [Option.map_some,Option.some.injEq] at hv'
    subst hv'
    dsimp only at hQ
    rw [List.getD_eq_getElem?_getD,z] at hQ
    exact wpAny_truthy_bool hQ
 have fin:∀(h':Heap) (tk n:Nat) (s2:Shared) (it:Addr),n=bs.length->s.heap.objs.size=it->Inv X pins σ H s2->s2.os=s.os->(∀b o,b∉[it]->s2.heap.get? b=some o->h'.get? b=some o)->
   EP X pins σ Q (.bool ((List.range n).all fun i=>bs.getD i false)) {s2 with heap:=h',toks:=tk}:=by
  intro h' tk n s2 it hn hit I2 ho kp
  subst hn
  rw [all_range]
  have fp:=I.fpOk (b:=it) (H':=H) (by omega) (I.hok.fresh (by omega))
  obtain ⟨f0,f1,f2,f3,f4,f5⟩:=fp
  exact ⟨.bl _,H,I2.turned (it:=it) (fun b o hb e=>kp b o (by simpa using hb) e) f0 f1 f3 f4 f5,rfl,q⟩
 rcases hq with hq|hq
 · obtain ⟨its,rv,pl,hz⟩:=I.list hq
   have hits:=vals_bl rv
   have hlen:=rv.length
   refine call_all_walk (wpAny_pyIter_list pl.isList ?_)
   have hne:a≠s.heap.objs.size:=by
    obtain ⟨o,n,e,_⟩:=pl
    exact Nat.ne_of_lt (Heap.lt_size e)
   refine ⟨s.heap.objs.size,_,_,_,_,_,_,rfl,Walks.list hA1 _ a hne its.toArray,⟨⟨_,Heap.get?_push_size _ rfl,rfl,rfl⟩,pl.isList.push _⟩,tr its.toArray (by simpa using hits),fun h' tk kp=>?_⟩
   exact fin h' tk _ _ _ (by simpa using hlen.symm) rfl (I.kept (t':=s.toks) fun b o e=>Heap.get?_push_of_some _ e) rfl kp
 · obtain ⟨its,rv,pl,hz⟩:=I.tuple hq
   have hits:=vals_bl rv
   have hlen:=rv.length
   refine call_all_walk (wpAny_pyIter_tuple (show s.heap.IsTuple a its.toArray from pl) ?_)
   have hne:a≠s.heap.objs.size:=by
    obtain ⟨o,e,_⟩:=pl
    exact Nat.ne_of_lt (Heap.lt_size e)
   refine ⟨s.heap.objs.size,_,_,_,_,_,_,rfl,Walks.tuple hA1 _ a hne its.toArray,⟨⟨_,Heap.get?_push_size _ rfl,rfl,rfl⟩,?_⟩,tr its.toArray (by simpa using hits),fun h' tk kp=>?_⟩
   · obtain ⟨o,e,c⟩:=pl
     exact ⟨o,Heap.get?_push_of_some _ e,c⟩
   · exact fin h' tk _ _ _ (by simpa using hlen.symm) rfl (I.kept (t':=s.toks) fun b o e=>Heap.get?_push_of_some _ e) rfl kp
theorem se_all (G:Gd T cf k N sc X) {cl:CL} {e:Expr} (hg:Gl X "all"/\X.mg "all"=none) (he:PE X e (tL X.K cf cl)) (hst:noStar e=true):PE X (.Call (.Name "all" p) [e] [] pos) (tE X.K cf (.all cl)):=by
 refine PE.imp (pe_callB (all_seq G.calm) hg.1 hg.2 bb_all (one_arg he hst) (by decide) (by decide) (star_of hst [] X.env)) fun σ H Qv ⟨δ,ι,S,Q,hs,hh,w,q⟩=>?_
 simp only [evE,W_bind] at w
 refine tL.run hs hh w fun ds lks v ι1 H1 S1 x1 hs1 hh1 sq w1=>?_
 obtain ⟨b,hb,w2⟩:=W_lift' w1
 unfold allD at hb
 cases e:ds.mapM boolOf with
 |none=>rw [e] at hb;cases hb
 | some bs =>
   rw [e] at hb
   have hb:b=bs.all id:=by simpa using hb.symm
   subst hb
   obtain ⟨a,xs,rfl,rr,kd⟩:=sq
   rw [boolsOf e] at rr
   have:=rr.bls_eq
   subst this
   exact ⟨a,bs,rfl,kd.seq,q _ _ (Lf.up x1 (Lf.of (d:=.bl _) hh1 rfl w2))⟩
theorem se_dnewT:PE X (.Dict [] [] pos) (tE X.K cf .dnewT):=by
 refine PE.imp pe_dnewT fun σ H Qv ⟨δ,ι,S,Q,hs,hh,w,q⟩=>?_
 simp only [evE] at w
 intro p hp
 exact q _ _ ⟨.ref S.len,ι++[p],S.push (.dtp []),Ext.obj hh hp _,⟨p,hh.last p,rfl⟩,hh.obj' hp _ _ ⟨List.nodup_nil,[],upd_same,rfl⟩,w⟩
end
end R
end
section
set_option maxHeartbeats 4000000
namespace R
open PySem PySem.Spec PyProof.Rows L2
variable [Mks]
section
variable {prog:Program} {w:World} {A:Around} {E:Value->Shared->Prop} {s:Shared}
end
section
variable {T:Tab} {cf:CF} {k:Nat} {N:List Str} {sc:Scope} {X:Cx} {pos p p2 pos':Pos}
end
end R
end
section
namespace R
open PySem PySem.Spec PyProof.Rows L2
variable [Mks]
structure Ltr (K:PySem.W.Frag) (ι:List Addr) (H:Hp) (S:R.St) (lks:List Nat) (ι2:List Addr) (H2:Hp) (S2:R.St):Prop where
 ext:Ext ι H ι2 H2
 rh:RH K ι2 H2 S2
 lck:∀l∈lks,S2.get l=S.get l
structure Wk (K:PySem.W.Frag) (J:It) (ds:List D) (lks:List Nat) (ι:List Addr) (H:Hp) (S:R.St):Prop where
 go:∀(i:Nat) (ι2:List Addr) (H2:Hp) (S2:R.St),Ltr K ι H S lks ι2 H2 S2->i<ds.length->J.go i H2
 yld:∀(i:Nat) (ι2:List Addr) (H2:Hp) (S2:R.St) (x:V) (H':Hp),Ltr K ι H S lks ι2 H2 S2->i<ds.length->J.yld i H2 x H'->Ext ι2 H2 ι2 H'/\RH K ι2 H' S2/\∃d,ds[i]?=some d/\RV K ι2 H' d x
 stop:∀(i:Nat) (ι2:List Addr) (H2:Hp) (S2:R.St),Ltr K ι H S lks ι2 H2 S2->ds.length<=i->J.stop i H2
 lks:∀l∈lks,l<S.len
noncomputable def LfI (K:PySem.W.Frag) (ι:List Addr) (H:Hp) (Q:List D × List Nat->R.St->Prop) (J:It) (H':Hp):Prop:=∃ds lks ι' S',Ext ι H ι' H'/\RH K ι' H' S'/\Q (ds,lks) S'/\Wk K J ds lks ι' H' S'
noncomputable def tI (K:PySem.W.Frag) (cf:CF) (cl:CL):TI:=fun σ H R=>∃δ ι S Q,RS K ι H δ σ/\RH K ι H S/\W (evL cf cl δ S) Q/\∀J H',LfI K ι H Q J H'->R J H'
theorem PI.imp {X:Cx} {tg e:Expr} {t t':TI} (h:PI X tg e t) (i:∀σ H Q,t' σ H Q->t σ H Q):PI X tg e t':=fun pins s σ H Q I q=>h pins s σ H Q I (i σ H Q q)
noncomputable def iSeq (K:PySem.W.Frag) (tl:TE):TI:=fun σ H R=>tl σ H fun x H1=>∃a,x=.ref a/\(((∃xs,SqL K H1 a xs)/\R (Itl K a) H1)\/((∃xs,SqT K H1 a xs)/\R (Itt K a) H1))
section
variable {T:Tab} {cf:CF} {k:Nat} {N:List Str} {sc:Scope} {X:Cx} {pos p:Pos} {tg:Expr}
theorem pi_seq {l:Expr} {tl:TE} (hl:PE X l tl):PI X tg l (iSeq X.K tl):=by
 intro pins s σ H R I h
 refine thn (hl pins s σ H _ I h) fun v s1 ⟨x,H1,I1,r1,q1⟩=>?_
 obtain ⟨a,rfl,q1⟩:=q1
 cases r1
 rcases q1 with ⟨⟨xs,hq⟩,q⟩|⟨⟨xs,hq⟩,q⟩
 · obtain ⟨its,rv,pl,hz⟩:=I1.list hq
   refine wpAny_pyIter_list pl.isList ?_
   refine ⟨s1.heap.objs.size,[s1.heap.objs.size],_,_,H1,rfl,I1.kept (t':=s1.toks) fun b o e=>Heap.get?_push_of_some _ e,turn_list a _,⟨_,Heap.get?_push_size _ rfl,rfl,rfl⟩,fun b hb=>?_,q⟩
   have e:b=s1.heap.objs.size:=by simpa using hb
   subst e
   exact I1.fpOk (Nat.le_refl _) (I1.hok.fresh (Nat.le_refl _))
 · obtain ⟨its,rv,pl,hz⟩:=I1.tuple hq
   refine wpAny_pyIter_tuple (show s1.heap.IsTuple a its.toArray from pl) ?_
   refine ⟨s1.heap.objs.size,[s1.heap.objs.size],_,_,H1,rfl,I1.kept (t':=s1.toks) fun b o e=>Heap.get?_push_of_some _ e,turn_tuple a _,⟨_,Heap.get?_push_size _ rfl,rfl,rfl⟩,fun b hb=>?_,q⟩
   have e:b=s1.heap.objs.size:=by simpa using hb
   subst e
   exact I1.fpOk (Nat.le_refl _) (I1.hok.fresh (Nat.le_refl _))
theorem wk_list {K:PySem.W.Frag} {ι:List Addr} {H:Hp} {S:R.St} {a:Addr} {ds:List D} {lks:List Nat} (hl:∀l∈lks,l<S.len)
  (h:∀ι2 H2 S2,Ltr K ι H S lks ι2 H2 S2->∃xs,SqL K H2 a xs/\RVs K ι2 H2 ds xs/\∀ys,SqL K H2 a ys->True):Wk K (Itl K a) ds lks ι H S where
 go:=fun i ι2 H2 S2 lt hi=>by
  obtain ⟨xs,hq,rr,_⟩:=h ι2 H2 S2 lt
  exact ⟨xs,xs[i]'(by rw [rr.length];exact hi),hq,List.getElem?_eq_getElem _⟩
 yld:=fun i ι2 H2 S2 x H' lt hi y=>by
  obtain ⟨xs,hq,rr,_⟩:=h ι2 H2 S2 lt
  obtain ⟨rfl,y⟩:=y
  obtain ⟨d,e,r⟩:=rr.get' (y xs hq)
  exact ⟨Ext.refl _ _,lt.rh,d,e,r⟩
 stop:=fun i ι2 H2 S2 lt hi=>by
  obtain ⟨xs,hq,rr,_⟩:=h ι2 H2 S2 lt
  exact ⟨xs,hq,by rw [rr.length];exact hi⟩
 lks:=hl
theorem wk_tup {K:PySem.W.Frag} {ι:List Addr} {H:Hp} {S:R.St} {a:Addr} {ds:List D} {lks:List Nat} {xs:List V} (hl:∀l∈lks,l<S.len) (e:H a=some (.tup xs)) (rr:RVs K ι H ds xs):Wk K (Itt K a) ds lks ι H S where
 go:=fun i ι2 H2 S2 lt hi=>⟨xs,xs[i]'(by rw [rr.length];exact hi),SqT.of (lt.ext.kp.tups _ _ e),List.getElem?_eq_getElem _⟩
 yld:=fun i ι2 H2 S2 x H' lt hi y=>by
  obtain ⟨rfl,y⟩:=y
  obtain ⟨d,e,r⟩:=(rr.ext lt.ext).get' (y xs (SqT.of (lt.ext.kp.tups _ _ e)))
  exact ⟨Ext.refl _ _,lt.rh,d,e,r⟩
 stop:=fun i ι2 H2 S2 lt hi=>⟨xs,SqT.of (lt.ext.kp.tups _ _ e),by rw [rr.length];exact hi⟩
 lks:=hl
theorem si_seq {cl:CL} {e:Expr} (he:PE X e (tL X.K cf cl)) (hlk:∀{δ:Ev} {S:R.St} {Q:List D × List Nat->R.St->Prop},W (evL cf cl δ S) Q->W (evL cf cl δ S) fun r S'=>(∀l∈r.2,l<S'.len)/\Q r S'):PI X tg e (tI X.K cf cl):=by
 refine PI.imp (pi_seq he) fun σ H R ⟨δ,ι,S,Q,hs,hh,w,q⟩=>?_
 refine tL.run hs hh (hlk w) fun ds lks v ι1 H1 S1 x1 hs1 hh1 sq w1=>?_
 obtain ⟨hl,w1⟩:=w1
 obtain ⟨a,xs,rfl,rr,kd⟩:=sq
 refine ⟨a,rfl,?_⟩
 cases kd with
 |tmp h e=>exact .inl ⟨⟨xs,SqL.of e⟩,q _ _ ⟨ds,lks,ι1,S1,x1,hh1,w1,wk_list hl fun ι2 H2 S2 lt=>⟨xs,SqL.of (lt.ext.keep h e (by simp)),rr.ext lt.ext,fun _ _=>trivial⟩⟩⟩
 |fix e=>exact .inl ⟨⟨xs,e.sq⟩,q _ _ ⟨ds,lks,ι1,S1,x1,hh1,w1,wk_list hl fun ι2 H2 S2 lt=>⟨xs,(e.kp lt.ext.kp).sq,rr.ext lt.ext,fun _ _=>trivial⟩⟩⟩
 |tup e=>exact .inr ⟨⟨xs,SqT.of e⟩,q _ _ ⟨ds,lks,ι1,S1,x1,hh1,w1,wk_tup hl e rr⟩⟩
 | own l hm hi hg e =>
   refine .inl ⟨⟨xs,SqL.of e⟩,q _ _ ⟨ds,lks,ι1,S1,x1,hh1,w1,wk_list hl fun ι2 H2 S2 lt=>?_⟩⟩
   obtain ⟨b,h2,zs,hz,rz⟩:=lt.rh.obj l (.lst ds) ((lt.lck l hm).trans hg)
   rw [pre_get lt.ext.pre hi] at h2;cases h2
   exact ⟨zs,SqL.of hz,rz,fun _ _=>trivial⟩
theorem lk_val {ce:CE} {δ:Ev} {S:R.St} {Q:List D × List Nat->R.St->Prop} (h:W (evL cf (.val ce) δ S) Q):W (evL cf (.val ce) δ S) fun r S'=>(∀l∈r.2,l<S'.len)/\Q r S':=by
 simp only [evL,W_bind] at h⊢
 refine h.mono fun x S1 h1=>?_
 obtain ⟨ds,e,h2⟩:=W_lift' h1
 rw [e]
 refine ⟨fun l hl=>?_,h2⟩
 cases x with
 | ref l' =>
   simp [lkOf] at hl
   subst hl
   simp only [seqOf] at e
   split at e
   · rename_i e2;exact get_lt e2
   · cases e
 |_=>simp [lkOf] at hl
theorem lk_comp {n:Nat} {js g:List Nat} {it:CL} {c e:CE} {δ:Ev} {S:R.St} {Q:List D × List Nat->R.St->Prop} (h:W (evL cf (.comp n js g it c e) δ S) Q):W (evL cf (.comp n js g it c e) δ S) fun r S'=>(∀l∈r.2,l<S'.len)/\Q r S':=by
 simp only [evL,W_bind] at h⊢
 refine h.mono fun ds S1 h1=>h1.mono fun r S2 h2=>?_
 split at h2
 · rename_i c;rw [if_pos c];exact ⟨fun l hl=>by simp at hl,h2⟩
 · exact h2.elim
theorem wk_range {K:PySem.W.Frag} {ι:List Addr} {H:Hp} {S:R.St} (lo:Int) (n:Nat):Wk K (Itr lo n) ((List.range n).map fun (j:Nat)=>D.int (lo+j)) [] ι H S where
 go:=fun i ι2 H2 S2 lt hi=>by show i<n;simpa using hi
 yld:=fun i ι2 H2 S2 x H' lt hi y=>by
  obtain ⟨rfl,rfl⟩:=y
  have hi:i<n:=by simpa using hi
  exact ⟨Ext.refl _ _,lt.rh,.int (lo+i),by simp [hi],rfl⟩
 stop:=fun i ι2 H2 S2 lt hi=>by show n<=i;simpa using hi
 lks:=fun l hl=>by simp at hl
theorem si_rng1 {ca:CE} {a:Expr} (hg:Gl X "range"/\X.mg "range"=none) (ha:PE X a (tE X.K cf ca)) (hst:noStar a=true):PI X tg (.Call (.Name "range" p) [a] [] pos) (tI X.K cf (.rng1 ca)):=by
 refine PI.imp (pi_range1 hg.1 hg.2 (one_arg ha hst) (star_of hst [] X.env)) fun σ H R ⟨δ,ι,S,Q,hs,hh,w,q⟩=>?_
 simp only [evL,W_bind] at w
 refine tE.run hs hh w fun d v ι1 H1 S1 x1 hs1 hh1 r1 w1=>?_
 cases d with
 | int j =>
   obtain rfl:v=.int j:=r1
   dsimp only at w1
   split at w1
   · rename_i c
     have e:((List.range j.toNat).map fun (k:Nat)=>D.int k)=(List.range j.toNat).map fun (k:Nat)=>D.int (0+k):=by simp
     rw [e] at w1
     exact ⟨j,rfl,c.1,c.2,q _ _ ⟨_,[],ι1,S1,x1,hh1,w1,wk_range 0 j.toNat⟩⟩
   · exact w1.elim
 |_=>exact w1.elim
theorem si_rng2 {ca cb:CE} {a b:Expr} (hg:Gl X "range"/\X.mg "range"=none) (ha:PE X a (tE X.K cf ca)) (hb:PE X b (tE X.K cf cb)) (hst:noStar a=true) (hst2:noStar b=true):PI X tg (.Call (.Name "range" p) [a,b] [] pos) (tI X.K cf (.rng2 ca cb)):=by
 refine PI.imp (pi_range2 hg.1 hg.2 (pa_cons ha (one_arg hb hst2) (star_of hst [b] X.env)) (by rw [star_of hst,star_of hst2];rfl) (star_of hst2 [] X.env)) fun σ H R ⟨δ,ι,S,Q,hs,hh,w,q⟩=>?_
 simp only [evL,W_bind] at w
 refine tE.run hs hh w fun d v ι1 H1 S1 x1 hs1 hh1 r1 w1=>tE.run hs1 hh1 w1 fun e u ι2 H2 S2 x2 hs2 hh2 r2 w2=>?_
 split at w2
 · rename_i i j
   obtain rfl:v=.int i:=r1
   obtain rfl:u=.int j:=r2
   split at w2
   · rename_i c
     exact ⟨i,j,rfl,c,q _ _ ⟨_,[],ι2,S2,x1.trans x2,hh2,w2,wk_range i (j - i).toNat⟩⟩
   · exact w2.elim
 · exact w2.elim
theorem turned_all {X:Cx} {pins:List (Addr × Obj)} {σ:L2.St} {H:Hp} {s:Shared} {h':Heap} {t':Nat} {fp:List Addr} (I:Inv X pins σ H s) (k:∀b o,b∉fp->s.heap.get? b=some o->h'.get? b=some o) (hf:∀b∈fp,FpOk X pins H b):Inv X pins σ H {s with heap:=h',toks:=t'}:=by
 have nit:∀b u,H b=some u->b∉fp:=fun b u e z=>by rw [(hf b z).1] at e;cases e
 refine I.step (g':=s.gens) (d':=s.drawn) (ch:=fp) (fun b hb=>?_) (fun b o _ _ hc e _=>k b o hc e) (fun b o _ _ hc e _=>⟨o.slots,k b o hc e⟩) (fun _ _ _ _ n=>n)
  (fun b o hc e=>⟨o,k b o hc e⟩) (fun _ _ e=>e) (fun _ _ _ e=>e) (fun b ps e=>⟨#[],by rw [e];simp⟩) (fun m hm=>?_) (fun b u e=>?_) I.bare
 · obtain ⟨f0,f1,f2,f3,f4,f5⟩:=hf b hb
   exact ⟨f3,f1,f4,f5⟩
 · obtain ⟨o,es,ep,ho,r⟩:=hm
   exact ⟨o,es,ep,k _ o (fun z=>(hf _ z).2.1 rfl) ho,r⟩
 · refine (I.hok b u e).stay (fun c v hc q=>k c v ?_ q) (fun _ q=>q) fun _ _ q=>q
   rcases hc with z|z
   · rw [z];exact nit b u e
   · exact nit c _ z
noncomputable def Itz (K:PySem.W.Frag) (a b:Addr):It:=
 ⟨fun i H => ∃ xs ys x y, SqL K H a xs ∧ SqL K H b ys ∧ xs[i]? = some x ∧ ys[i]? = some y,
  fun i H v H'=>∃T x y,H T=none/\v=.ref T/\H'=upd H T (.tup [x,y])/\(∀xs,SqL K H a xs->xs[i]?=some x)/\∀ys,SqL K H b ys->ys[i]?=some y,
  fun i H=>∃xs ys,SqL K H a xs/\SqL K H b ys/\(xs.length<=i\/ys.length<=i)⟩
theorem mem4 {z TI TO i1 i2 b:Addr} (h:¬b∈[z,TI,TO,i1,i2]):b≠z/\b≠TO/\b≠i1/\b≠i2:=by
 simp only [List.mem_cons,List.not_mem_nil,or_false,not_or] at h
 exact ⟨h.1,h.2.2.1,h.2.2.2.1,h.2.2.2.2⟩
theorem turn_zip {P:Program} {w:World} {K:PySem.W.Frag} {es:List Expr} {j:Nat} {pt:Pos} {z TI TO i1 i2 a b:Addr} (D:ZipApart z TI TO i1 i2 a b):Turn P w K (.Tuple es j pt) (Itz K a b) [z,TI,TO,i1,i2] z
  (fun i h=>IsZip h z TI TO .none/\IsPair h TI (.ref i1) (.ref i2)/\(∃u v,IsPair h TO u v)/\h.IsListIter i1 a i/\h.IsListIter i2 b i) where
 mem:=by simp
 obj:=fun i h st c hc=>by
  obtain ⟨h1,h2,⟨u,v,h3⟩,⟨o4,h4,_,d4⟩,⟨o5,h5,_,d5⟩⟩:=st
  simp only [List.mem_cons,List.not_mem_nil,or_false] at hc
  rcases hc with rfl|rfl|rfl|rfl|rfl
  · exact ⟨_,h1,fun v z=>by cases z⟩
  · exact ⟨_,h2,fun v z=>by cases z⟩
  · exact ⟨_,h3,fun v z=>by cases z⟩
  · exact ⟨_,h4,fun v z=>by rw [d4] at z;cases z⟩
  · exact ⟨_,h5,fun v z=>by rw [d5] at z;cases z⟩
 keep:=fun i h h' st k=>by
  obtain ⟨h1,h2,⟨u,v,h3⟩,h4,h5⟩:=st
  exact ⟨k z (by simp) _ h1,k TI (by simp) _ h2,⟨u,v,k TO (by simp) _ h3⟩,h4.at fun o e=>k i1 (by simp) o e,h5.at fun o e=>k i2 (by simp) o e⟩
 item:=by
  intro X hP hw hK hc i pins s σ H E I hf st hg
  subst hP hw hK
  obtain ⟨xs,ys,x,y,hq,hr,hx,hy⟩:=hg
  obtain ⟨xv,rx,px,_⟩:=I.list hq
  obtain ⟨yv,ry,py,_⟩:=I.list hr
  obtain ⟨u,hu,ru⟩:=rx.get hx
  obtain ⟨v,hv,rv⟩:=ry.get hy
  obtain ⟨hz,hTI,⟨p,q,hTO⟩,h1,h2⟩:=st
  refine wpAny_pyNext_zip_item D hz hTI hTO h1 h2 px.isList py.isList (x:=u) (y:=v) (by simpa using hu) (by simpa using hv) fun h' a1 a2 a3 a4 a5 a6 hk=>?_
  have hn:H s.heap.objs.size=none:=I.hok.fresh (Nat.le_refl _)
  have I1:Inv X pins σ (upd H s.heap.objs.size (.tup [x,y])) {s with heap:=s.heap.push {cls:=.type "tuple",data:=.seq #[u,v]},toks:=s.toks}:=
   I.laid (t':=s.toks) (fun b u e=>Heap.get?_push_of_some _ e) (Nat.le_refl _) ⟨by rw [sizeLine_eq];simp,[u,v],.cons ru (.cons rv .nil),⟨_,Heap.get?_push_size _ rfl,rfl,_,rfl⟩⟩
  have lt:∀{c o},s.heap.get? c=some o->c≠s.heap.objs.size:=fun e=>Nat.ne_of_lt (Heap.lt_size e)
  have nf:∀c∈[z,TI,TO,i1,i2],c≠s.heap.objs.size:=by
   intro c hc
   simp only [List.mem_cons,List.not_mem_nil,or_false] at hc
   rcases hc with rfl|rfl|rfl|rfl|rfl
   · exact lt hz
   · exact lt hTI
   · exact lt hTO
   · obtain ⟨o,e,_⟩:=h1;exact lt e
   · obtain ⟨o,e,_⟩:=h2;exact lt e
  have hf1:∀c∈[z,TI,TO,i1,i2],FpOk X pins (upd H s.heap.objs.size (.tup [x,y])) c:=fun c hc=>by
   obtain ⟨f0,f⟩:=hf c hc
   exact ⟨by rw [upd_ne (nf c hc)];exact f0,f⟩
  have k2:∀c o,¬c∈[z,TI,TO,i1,i2]->(s.heap.push {cls:=.type "tuple",data:=.seq #[u,v]}).get? c=some o->h'.get? c=some o:=fun c o hc e=>by
   obtain ⟨c1,c2,c3,c4⟩:=mem4 hc
   by_cases hs:c=s.heap.objs.size
   · subst hs
     have e2:(s.heap.push {cls:=.type "tuple",data:=.seq #[u,v]}).get? s.heap.objs.size=_:=Heap.get?_push_size _ rfl
     rw [e2] at e
     cases e
     exact a5
   · exact hk c o c1 c2 c3 c4 ((Heap.get?_push_ne _ _ _ hs).symm.trans e)
  have I2:Inv X pins σ (upd H s.heap.objs.size (.tup [x,y])) {s with heap:=h'}:=turned_all (s:={s with heap:=s.heap.push {cls:=.type "tuple",data:=.seq #[u,v]},toks:=s.toks}) (h':=h') (t':=s.toks) I1 k2 hf1
  refine ⟨_,rfl,?_⟩
  refine wpAny_letOwnedTupleGo_zip a1 fun h2' hz' hs'=>?_
  refine ⟨.ref s.heap.objs.size,upd H s.heap.objs.size (.tup [x,y]),turned_all (t':=s.toks) I2 (fun c o hc e=>hs'.extBut _ _ (mem4 hc).1 e) hf1,rfl,⟨_,x,y,hn,rfl,rfl,fun xs' hx'=>by rw [I.list_inj hx' hq];exact hx,fun ys' hy'=>by rw [I.list_inj hy' hr];exact hy⟩,
   ⟨hz',hs'.extBut _ _ D.TIz (hk _ _ D.TIz D.TITO D.TIi1 D.TIi2 hTI),⟨_,_,hs'.extBut _ _ D.TOz a2⟩,a3.extBut hs'.extBut D.i1z,a4.extBut hs'.extBut D.i2z⟩,fun c hc=>(hf1 c hc).1⟩
 done:=by
  intro X hP hw hK hc i pins s σ H E I hf st hg
  subst hP hw hK
  obtain ⟨xs,ys,hq,hr,he⟩:=hg
  obtain ⟨xv,rx,px,_⟩:=I.list hq
  obtain ⟨yv,ry,py,_⟩:=I.list hr
  obtain ⟨hz,hTI,⟨p,q,hTO⟩,h1,h2⟩:=st
  refine wpAny_pyNext_zip_end (I.ok.hd hc) D hz hTI hTO h1 h2 px.isList py.isList ?_ fun h' hk=>⟨rfl,turned_all (t':=s.toks) I (fun c o hc e=>(fun ⟨c1,c2,c3,c4⟩=>hk c o c1 c2 c3 c4 e) (mem4 hc)) hf⟩
  have l1:=rx.length
  have l2:=ry.length
  rcases he with he|he
  · left;simp;omega
  · right;simp;omega
 self:=fun _ _ _ _ _ st h=>wpAny_pyIter_zip st.1 h
noncomputable def iZip (K:PySem.W.Frag) (t:TA):TI:=fun σ H R=>t σ H fun vs H1=>∃a b xs ys,vs=[.ref a,.ref b]/\SqL K H1 a xs/\SqL K H1 b ys/\R (Itz K a b) H1
theorem pi_zip {a b:Expr} {ta:TA} {p pos pt:Pos} {es:List Expr} {j:Nat} (hg:Gl X "zip") (hm:X.mg "zip"=none) (ha:PA X [a,b] ta) (hs:starEach [a,b] X.env=[(false,eval a X.env),(false,eval b X.env)]) (hs2:starEach [b] X.env=[(false,eval b X.env)]) :
  PI X (.Tuple es j pt) (.Call (.Name "zip" p) [a,b] [] pos) (iZip X.K ta):=by
 intro pins s σ H R I h
 refine Call_ (ld_blt I hg hm boot_zip (PyProof.Rows.callWith_type1 (thn (ha pos pins s σ H _ I h) fun us s1 ⟨vs,H1,I1,r1,q1⟩=>?_) (by rw [hs,hs2]) (by rw [hs2];rfl)))
 obtain ⟨l,m,xs,ys,e,q1,q2,q⟩:=q1
 subst e
 cases r1 with
 | cons r rr =>
   cases rr with
   | cons r' rr =>
     cases rr
     cases r
     cases r'
     obtain ⟨xv,rx,px,_⟩:=I1.list q1
     obtain ⟨yv,ry,py,_⟩:=I1.list q2
     refine call_zip_2 px.isList py.isList fun h' hz hTI hTO hi1 hi2 hsz hk=>?_
     refine wpAny_pyIter_zip hz ?_
     have l1:l<s1.heap.objs.size:=by obtain ⟨_,e,_⟩:=px.isList;exact Heap.lt_size e
     have l2:m<s1.heap.objs.size:=by obtain ⟨_,e,_⟩:=py.isList;exact Heap.lt_size e
     refine ⟨_,_,_,_,H1,rfl,I1.kept (t':=s1.toks) hk,turn_zip (zipApart_new l1 l2),⟨hz,hTI,⟨_,_,hTO⟩,hi1,hi2⟩,fun c hc=>?_,q⟩
     simp only [List.mem_cons,List.not_mem_nil,or_false] at hc
     have:s1.heap.objs.size<=c:=by rcases hc with rfl|rfl|rfl|rfl|rfl<;>omega
     exact I1.fpOk this (I1.hok.fresh this)
theorem wk_zip {K:PySem.W.Frag} {ι:List Addr} {H:Hp} {S:R.St} {a b:Addr} {l m:Nat} {ds es:List D} (hl:S.get l=some (.lst ds)) (hm:S.get m=some (.lst es)) (ha:ι[l]?=some a) (hb:ι[m]?=some b):Wk K (Itz K a b) (List.zipWith pairD ds es) [l,m] ι H S:=by
 have get:∀{ι2 H2 S2},Ltr K ι H S [l,m] ι2 H2 S2->∃xs ys,SqL K H2 a xs/\RVs K ι2 H2 ds xs/\SqL K H2 b ys/\RVs K ι2 H2 es ys:=fun {ι2 H2 S2} lt=>by
  obtain ⟨a',h2,xs,hx,rx⟩:=lt.rh.obj l (.lst ds) ((lt.lck l (by simp)).trans hl)
  rw [pre_get lt.ext.pre ha] at h2;cases h2
  obtain ⟨b',h3,ys,hy,ry⟩:=lt.rh.obj m (.lst es) ((lt.lck m (by simp)).trans hm)
  rw [pre_get lt.ext.pre hb] at h3;cases h3
  exact ⟨xs,ys,SqL.of hx,rx,SqL.of hy,ry⟩
 refine ⟨fun i ι2 H2 S2 lt hi=>?_,fun i ι2 H2 S2 x H' lt hi y=>?_,fun i ι2 H2 S2 lt hi=>?_,fun k hk=>?_⟩
 · obtain ⟨xs,ys,hx,rx,hy,ry⟩:=get lt
   simp only [List.length_zipWith] at hi
   have h1:=rx.length
   have h2:=ry.length
   exact ⟨xs,ys,xs[i]'(by omega),ys[i]'(by omega),hx,hy,List.getElem?_eq_getElem _,List.getElem?_eq_getElem _⟩
 · obtain ⟨xs,ys,hx,rx,hy,ry⟩:=get lt
   obtain ⟨T,u,v,hT,rfl,rfl,y1,y2⟩:=y
   obtain ⟨d,ed,rd⟩:=rx.get' (y1 xs hx)
   obtain ⟨e,ee,re⟩:=ry.get' (y2 ys hy)
   have x2:Ext ι2 H2 ι2 (upd H2 T (.tup [u,v])):=Ext.new hT _
   refine ⟨x2,lt.rh.new hT _,pairD d e,by rw [List.getElem?_zipWith,ed,ee],?_⟩
   exact ⟨T,[u,v],rfl,upd_same,u,[v],rfl,rd.ext x2,v,[],rfl,re.ext x2,rfl⟩
 · obtain ⟨xs,ys,hx,rx,hy,ry⟩:=get lt
   simp only [List.length_zipWith] at hi
   have h1:=rx.length
   have h2:=ry.length
   exact ⟨xs,ys,hx,hy,by omega⟩
 · simp only [List.mem_cons,List.not_mem_nil,or_false] at hk
   rcases hk with rfl|rfl
   · exact get_lt hl
   · exact get_lt hm
theorem zipOf_inv {S:R.St} {x y:D} {r:List D × List Nat} (h:zipOf S x y=some r):∃l m ds es,x=.ref l/\y=.ref m/\S.get l=some (.lst ds)/\S.get m=some (.lst es)/\r=(List.zipWith pairD ds es,[l,m]):=by
 unfold zipOf at h
 split at h
 · split at h
   · rename_i h1 h2;cases h;exact ⟨_,_,_,_,rfl,rfl,h1,h2,rfl⟩
   · cases h
 · cases h
theorem si_zip {ca cb:CE} {a b:Expr} {es:List Expr} {j:Nat} {pt:Pos} (hg:Gl X "zip"/\X.mg "zip"=none) (ha:PE X a (tE X.K cf ca)) (hb:PE X b (tE X.K cf cb)) (hst:noStar a=true) (hst2:noStar b=true):PI X (.Tuple es j pt) (.Call (.Name "zip" p) [a,b] [] pos) (tI X.K cf (.zip ca cb)):=by
 refine PI.imp (pi_zip hg.1 hg.2 (pa_cons ha (one_arg hb hst2) (star_of hst [b] X.env)) (by rw [star_of hst,star_of hst2];rfl) (star_of hst2 [] X.env)) fun σ H R ⟨δ,ι,S,Q,hs,hh,w,q⟩=>?_
 simp only [evL,W_bind] at w
 refine tE.run hs hh w fun d v ι1 H1 S1 x1 hs1 hh1 r1 w1=>tE.run hs1 hh1 w1 fun e u ι2 H2 S2 x2 hs2 hh2 r2 w2=>?_
 obtain ⟨r,ez,w3⟩:=W_lift' w2
 obtain ⟨l,m,ds,es,rfl,rfl,hl,hm,rfl⟩:=zipOf_inv ez
 obtain ⟨a,ea,rfl⟩:=r1.ext x2
 obtain ⟨b,eb,rfl⟩:=r2
 obtain ⟨a',h2,xs,hx,rx⟩:=hh2.obj l _ hl
 rw [ea] at h2;cases h2
 obtain ⟨b',h3,ys,hy,ry⟩:=hh2.obj m _ hm
 rw [eb] at h3;cases h3
 exact ⟨a,b,xs,ys,rfl,SqL.of hx,SqL.of hy,q _ _ ⟨_,_,ι2,S2,x1.trans x2,hh2,w3,wk_zip hl hm ea eb⟩⟩
noncomputable def tG (K:PySem.W.Frag) (is:List Nat):TG:=fun v σ H Qv=>∃δ ι d δ',RS K ι H δ σ/\RV K ι H d v/\asgG is d δ=some δ'/\∀σ',RS K ι H δ' σ'->Qv σ' H
noncomputable def tGs (K:PySem.W.Frag) (is:List Nat):TGs:=fun vs σ H Qv=>∃δ ι ds,RS K ι H δ σ/\RVs K ι H ds vs/\ds.length=is.length/\∀σ',RS K ι H (asgAll is ds δ) σ'->Qv σ' H
theorem PG.imp {t t':TG} (h:PG X tg t) (i:∀v σ H Q,t' v σ H Q->t v σ H Q):PG X tg t':=fun pins s σ H v u Q I r q=>h pins s σ H v u Q I r (i v σ H Q q)
theorem PGs.imp {es:List Expr} {t t':TGs} (h:PGs X es t) (i:∀v σ H Q,t' v σ H Q->t v σ H Q):PGs X es t':=fun pins s σ H v u Q I r q=>h pins s σ H v u Q I r (i v σ H Q q)
theorem sg_name (G:Gd T cf k N sc X) {i:Nat} {x:Str} (hi:N[i]?=some x) (hl:isLoc sc x=true):PG X (.Name x pos) (tG X.K [i]):=by
 refine PG.imp (pg_name (i:=i) (by rw [G.nm];exact G.nd) (by rw [G.nm];exact hi) (G.lc hl).1 (G.lc hl).2) fun v σ H Qv ⟨δ,ι,d,δ',hs,r,e,q⟩=>?_
 simp only [asgG] at e
 cases e
 exact q _ (hs.set r i)
noncomputable def namesB (sc:Scope) (N:List Str):List Nat->List Expr->Bool
 | [],[]=>true
 |i::is,.Name x _::es=>(N[i]? == some x)&&isLoc sc x&&namesB sc N is es
 |_,_=>false
theorem sgs_names (G:Gd T cf k N sc X):∀{is:List Nat} {es:List Expr},namesB sc N is es=true->PGs X es (tGs X.K is)/\(assignEach es X.env).length=is.length/\(assignEach es X.env).findIdx? (·.1)=none
 | [],[],_=>⟨PGs.imp pgs_nil fun v σ H Qv ⟨δ,ι,ds,hs,r,hl,q⟩=>by
  have:ds=[]:=by simpa using hl
  subst this
  exact ⟨r,q σ (by simpa [asgAll] using hs)⟩,rfl,rfl⟩
 | [],_::_,h=>by simp [namesB] at h
 |_::_,[],h=>by simp [namesB] at h
 | i :: is, e :: es, h => by
   cases e with
   | Name x pos =>
     simp only [namesB,Bool.and_eq_true,beq_iff_eq] at h
     obtain ⟨h1,h2,h3⟩:=sgs_names G (is:=is) (es:=es) h.2
     refine ⟨PGs.imp (pgs_cons (pg_name (i:=i) (by rw [G.nm];exact G.nd) (by rw [G.nm];exact h.1.1) (G.lc h.1.2).1 (G.lc h.1.2).2) h1) fun v σ H Qv ⟨δ,ι,ds,hs,r,hl,q⟩=>?_,?_,?_⟩
     · cases ds with
       |nil=>simp at hl
       | cons d ds =>
         obtain ⟨v1,vr,rfl,r1,r2⟩:=r
         refine ⟨v1,vr,rfl,?_⟩
         exact ⟨δ.set i (some d),ι,ds,hs.set r1 i,r2,by simpa using hl,fun σ' hs'=>q σ' (by simpa [asgAll] using hs')⟩
     · show ((false,_)::assignEach es X.env).length=_
       simp [h2]
     · show ((false,_)::assignEach es X.env).findIdx? _=_
       simp [List.findIdx?_cons,h3]
   |_=>simp [namesB] at h
theorem asgG_tup {is:List Nat} {d:D} {δ δ':Ev} (h2:2<=is.length) (e:asgG is d δ=some δ'):∃ds,d=.tup ds/\ds.length=is.length/\δ'=asgAll is ds δ:=by
 match is,h2 with
 | a :: b :: t, _ =>
   cases d with
   | tup ds =>
     simp only [asgG] at e
     split at e
     · rename_i c;cases e;exact ⟨ds,rfl,c,rfl⟩
     · cases e
   |_=>cases e
theorem sg_tup (G:Gd T cf k N sc X) {is:List Nat} {es:List Expr} {j:Nat} (h:namesB sc N is es=true) (h2:2<=is.length):PG X (.Tuple es j pos) (tG X.K is):=by
 obtain ⟨h1,hn,hst⟩:=sgs_names G h
 refine PG.imp (pg_tup G.calm h1 hn hst) fun v σ H Qv ⟨δ,ι,d,δ',hs,r,e,q⟩=>?_
 obtain ⟨ds,rfl,c,rfl⟩:=asgG_tup h2 e
 obtain ⟨a,xs,rfl,ha,rr⟩:=r
 exact ⟨a,xs,rfl,SqT.of ha,by rw [rr.length];exact c,δ,ι,ds,hs,rr,c,q⟩
theorem Ext.tmp {ι ι':List Addr} {H H':Hp} {p:Addr} {vs us:List V} (x:Ext ι H ι' H') (hn:H p=none) (e:H' p=some (.lst vs)):Ext ι H ι' (upd H' p (.lst us)):=by
 refine ⟨x.pre,x.kp.trans (.same (Tups.upd_lst e) (fun b o u h=>?_) fun b ps h=>?_),fun b o hb eb=>?_⟩
 · rw [upd_ne];exact h
   rintro rfl
   rw [e] at h;cases h
 · rw [upd_ne];exact h
   rintro rfl
   rw [e] at h;cases h
 · obtain ⟨h1,h2⟩:=x.rest b o hb eb
   refine ⟨?_,h2⟩
   rw [upd_ne];exact h1
   rintro rfl
   rw [hn] at eb;cases eb
theorem Kp.tmp {H:Hp} {p:Addr} {vs us:List V} (e:H p=some (.lst vs)):Kp H (upd H p (.lst us)):=.same (Tups.upd_lst e) (fun b o u h=>by
 rw [upd_ne];exact h
 rintro rfl
 rw [e] at h;cases h) fun b ps h=>by
 rw [upd_ne];exact h
 rintro rfl
 rw [e] at h;cases h
theorem RH.tmp {K:PySem.W.Frag} {ι:List Addr} {H:Hp} {S:R.St} {p:Addr} {vs us:List V} (hh:RH K ι H S) (hp:p∉ι) (e:H p=some (.lst vs)):RH K ι (upd H p (.lst us)) S:=
 ⟨hh.len,hh.nd,fun l o q=>by
  obtain ⟨a,h1,h2,hm⟩:=hh.mem q
  exact ⟨a,h1,h2.up (List.prefix_refl _) (Kp.tmp e) (upd_ne fun z=>hp (z▸hm))⟩,(Kp.tmp e).tab hh.tab⟩
theorem RS.up {K:PySem.W.Frag} {ι ι':List Addr} {H H':Hp} {δ:Ev} {σ:L2.St} (h:RS K ι H δ σ) (hp:ι <+: ι') (hk:Kp H H'):RS K ι' H' δ σ:=
 ⟨h.1,fun i d e=>let ⟨v,e1,r⟩:=h.2 i d e;⟨v,e1,r.up hp hk⟩⟩
theorem RH.lk {K:PySem.W.Frag} {ι:List Addr} {H:Hp} {S:R.St} (hh:RH K ι H S) (ks:List Nat):RH K ι H {S with lk:=ks}:=⟨hh.len,hh.nd,fun l o e=>hh.obj l o e,hh.tab⟩
theorem RS.csl {K:PySem.W.Frag} {ι:List Addr} {H:Hp} {δ:Ev} {σ:L2.St} (h:RS K ι H δ σ) (nt:Nat) (js:List Nat):RS K ι H (R.csl nt js δ) (L2.csl nt js σ):=by
 refine ⟨by simp [R.csl,L2.csl],fun i d e=>?_⟩
 unfold R.csl at e
 unfold L2.csl
 by_cases hi:i<nt
 · rw [List.getElem?_append_left (by simpa using hi),List.getElem?_replicate] at e
   rw [if_pos hi] at e
   cases e
 · rw [List.getElem?_append_right (by simpa using hi)] at e⊢
   simp only [List.length_replicate,List.getElem?_map] at e⊢
   cases ej:js[i - nt]? with
   |none=>rw [ej] at e;cases e
   | some j =>
     rw [ej] at e
     simp only [Option.map_some,Option.some.injEq] at e⊢
     have e2:δ[j]?=some (some d):=by
      cases z:δ[j]? with
      |none=>rw [z] at e;cases e
      |some o=>rw [z] at e;simp at e;rw [e]
     obtain ⟨v,ev,r⟩:=h.2 j d e2
     exact ⟨v,by rw [ev];rfl,r⟩
theorem drop_cons {α:Type} {xs:List α} {i:Nat} {x:α} (h:xs[i]?=some x):xs.drop i=x::xs.drop (i+1):=by
 obtain ⟨h1,h2⟩:=List.getElem?_eq_some_iff.mp h
 rw [List.drop_eq_getElem_cons h1,h2]
noncomputable def CInv (K:PySem.W.Frag) (cf:CF) (g:List Nat) (c e:CE) (Q:List D × List Nat->R.St->Prop) (ds:List D) (lks:List Nat) (ι1:List Addr) (H1:Hp) (S1:R.St) (p:Addr) (i:Nat) (σ':L2.St) (H':Hp):Prop:=
 i<=ds.length/\∃δ' ι' S' acc vs,RS K ι' H' δ' σ'/\Ltr K ι1 H1 S1 lks ι' H' S'/\S'.lk=lks++S1.lk/\S1.len<=S'.len/\p∉ι'/\H' p=some (.lst vs)/\RVs K ι' H' acc vs/\
  W (turnsC g (evT cf c) (evE cf e) (ds.drop i) δ' S') fun rest S2=>(acc++rest).length<=16777216/\Q (acc++rest,[]) {S2 with lk:=S1.lk}
theorem comp_imp {nt:Nat} {js is:List Nat} {it:CL} {c e:CE} {σ:L2.St} {H:Hp} {Qv:VK} (hcf:CFok cf) (h:tLt X.K cf (.comp nt js is it c e) σ H Qv):tComp nt js (tI X.K cf it) (tG X.K is) (tT X.K cf c) (tE X.K cf e) σ H Qv:=by
 obtain ⟨δ,ι,S,Q,hs,hh,w,q⟩:=h
 simp only [evL,W_bind] at w
 refine ⟨δ,ι,S,_,hs,hh,w,fun J H1 ⟨ds,lks,ι1,S1,x1,hh1,w1,wk⟩=>?_⟩
 dsimp only at w1
 unfold locked at w1
 rw [W_bind] at w1
 intro p hp
 have hpi:=hh1.fresh hp
 refine ⟨fun i m σ' H'=>m=ds.length - i/\CInv X.K cf is c e Q ds lks ι1 H1 S1 p i σ' H',⟨_,rfl,Nat.zero_le _,R.csl nt js δ,ι1,{S1 with lk:=lks++S1.lk},[],[],((hs.ext x1).csl _ _).up (List.prefix_refl _) (Kp.new hp _),⟨Ext.new hp _,(hh1.lk _).new hp _,fun l _=>rfl⟩,rfl,Nat.le_refl _,hpi,upd_same,rfl,?_⟩,?_⟩
 · refine w1.mono fun rest S2 w2=>?_
   simp only [W_ok] at w2
   split at w2
   · rename_i c;exact ⟨by simpa using c,by simpa using w2⟩
   · exact w2.elim
 rintro i m σ' H' ⟨rfl,hle,δ',ι',S',acc,vs,hs',lt,hlk,hln,hpn,hpv,ra,wt⟩
 rcases Nat.lt_or_eq_of_le hle with hlt|rfl
 · refine .inr ⟨wk.go i ι' H' S' lt hlt,CInv X.K cf is c e Q ds lks ι1 H1 S1 p (i+1),fun σ2 H2 h=>⟨_,by omega,rfl,h⟩,fun x H2 hy=>?_⟩
   obtain ⟨x2,hh2,d,hd,rd⟩:=wk.yld i ι' H' S' x H2 lt hlt hy
   have hs2:=hs'.ext x2
   have hp2:=x2.keep hpn hpv (by simp)
   rw [drop_cons hd] at wt
   simp only [turnsC] at wt
   cases ea:asgG is d δ' with
   |none=>rw [ea] at wt;exact wt.elim
   | some δ2 =>
     rw [ea] at wt
     dsimp only at wt
     rw [W_bind] at wt
     refine ⟨δ',ι',d,δ2,hs2,rd,ea,fun σ2 hs3=>?_⟩
     refine tT.run hs3 hh2 (evT_F hcf c δ2 S' _ wt) fun b ι3 H3 S3 x3 hs4 hh3 w3=>?_
     obtain ⟨w3,f3⟩:=w3
     have hp3:=x3.keep hpn hp2 (by simp)
     have hpn3:=(x3.rest p _ hpn hp2).2
     have keep:∀{S4:R.St},Frm S' S4->S4.lk=lks++S1.lk/\S1.len<=S4.len/\∀l∈lks,S4.get l=S1.get l:=fun f=>⟨f.lk.trans hlk,Nat.le_trans hln f.lens,fun l hl=>
      (f.same l (by rw [hlk];exact List.mem_append_left _ hl) (Nat.lt_of_lt_of_le (wk.lks l hl) hln)).trans (lt.lck l hl)⟩
     cases b with
     | false =>
       simp only [Bool.false_eq_true,if_false] at w3⊢
       obtain ⟨k1,k2,k3⟩:=keep f3
       exact ⟨hlt,δ2,ι3,S3,acc,vs,hs4,⟨(lt.ext.trans x2).trans x3,hh3,k3⟩,k1,k2,hpn3,hp3,(ra.ext x2).ext x3,w3⟩
     | true =>
       simp only [if_true] at w3⊢
       rw [W_bind] at w3
       refine tE.run hs4 hh3 (evE_F hcf e δ2 S3 _ w3) fun z v ι4 H4 S4 x4 hs5 hh4 rz w4=>?_
       obtain ⟨w4,f4⟩:=w4
       obtain ⟨k1,k2,k3⟩:=keep (f3.trans f4)
       have hp4:=x4.keep hpn3 hp3 (by simp)
       have hpn4:=(x4.rest p _ hpn3 hp3).2
       rw [W_bind] at w4
       have ra4:=((ra.ext x2).ext x3).ext x4
       have hlen:acc.length<16777216:=by
        obtain ⟨rest,S5,_,w5⟩:=W_ok' w4
        have:=w5.1
        simp at this
        omega
       refine ⟨vs,hp4,by rw [ra4.length,sizeLine_eq];exact hlen,hlt,δ2,ι4,S4,acc++[z],vs++[v],hs5.up (List.prefix_refl _) (Kp.tmp hp4),⟨(((lt.ext.trans x2).trans x3).trans x4).tmp hp hp4,hh4.tmp hpn4 hp4,k3⟩,k1,k2,hpn4,upd_same,?_,?_⟩
       · exact (RVs.append (es:=[z]) (us:=[v]) ra4 ⟨v,[],rfl,rz,rfl⟩).up (List.prefix_refl _) (Kp.tmp hp4)
       · refine w4.mono fun rest S5 w5=>?_
         simp only [W_ok] at w5
         simpa using w5
 · refine .inl ⟨wk.stop _ ι' H' S' lt (Nat.le_refl _),?_⟩
   rw [List.drop_length] at wt
   simp only [turnsC,W_ok,List.append_nil] at wt
   exact q _ _ ⟨acc,ι',{S' with lk:=S1.lk},p,vs,x1.trans lt.ext,rfl,ra,hpn,hpv,lt.rh.lk _,back_none hh1 x1 hp,wt.2⟩
end
end R
end
section
namespace R
open PySem PySem.Spec PyProof.Rows L2
variable [Mks]
section
variable {T:Tab} {cf:CF} {k:Nat} {N:List Str} {sc:Scope} {X:Cx} {pos p:Pos}
theorem call_isc (D:Addr):CallR X (.builtin "isinstance") (fun xs H Q=>∃a C dx fs b,xs=[.ref a,.ref D]/\H a=some (.ins C dx fs)/\Cls X.K C/\IsaOk X.K C/\PySem.W.kitOne X.K (.ref C) (.ref D)=some b/\Q (.bl b) H):=by
 intro pins s σ H xs us Q I r h
 obtain ⟨a,C,dx,fs,b,rfl,ha,hc,ok,hk,q⟩:=h
 obtain ⟨u,w',rfl,rx,rc⟩:=vals2 r
 cases (show w'=Value.ref D from rc)
 exact isinst_ok I rx (.ins ha hc ok.ha ok.hn ok.ht ok.hm) hk fun tk=>⟨.bl b,H,I.tok tk,rfl,q⟩
theorem se_isc (G:Gd T cf k N sc X) {cs:List Nat} {x:Str} {p2:Pos} {ce:CE} {e:Expr} (hg:Gl X "isinstance"/\X.mg "isinstance"=none) (hx:isGl sc x=true) (hd:(x == ("__debug__":Str))=false) (hi:T.isas.contains (x,cs)=true)
  (he:PE X e (tE X.K cf ce)) (hst:noStar e=true):PE X (.Call (.Name "isinstance" p) [e,.Name x p2] [] pos) (tE X.K cf (.isc cs x ce)):=by
 obtain ⟨D,hm,hD⟩:=G.tab.isa x cs hi
 refine PE.imp (pe_callB (call_isc D) hg.1 hg.2 bb_isinstance (pa_cons he (pa_cons (pe_glob (v:=.ref D) (G.gl hx) hm rfl hd) pa_nil) (star_of hst _ X.env)) (by decide) (by decide) (star_of hst _ X.env)) fun σ H Qv ⟨δ,ι,S,Q,hs,hh,w,q⟩=>?_
 simp only [evE,W_bind] at w
 refine tE.run hs hh w fun d v ι1 H1 S1 x1 hs1 hh1 r1 w1=>?_
 obtain ⟨pr,ei,w2⟩:=W_lift' w1
 obtain ⟨c,fs⟩:=pr
 obtain ⟨l,rfl,hl⟩:=insOf_inv ei
 obtain ⟨b,i1,rfl⟩:=r1
 obtain ⟨b',i2,C,dx,ws,hC,hb,rf⟩:=hh1.obj l _ hl
 rw [i1] at i2;cases i2
 obtain ⟨_,_,cl,_,_⟩:=G.clsAt (.inr (.inr (ne_of hi))) hC
 obtain ⟨ok,kit⟩:=hD c C hC
 exact ⟨b,C,dx,ws,_,rfl,hb,cl,ok,kit,q _ _ (Lf.up x1 (Lf.of (d:=.bl _) hh1 rfl w2))⟩
theorem se_clr {ca:CE} {o:Expr} {apos cpos:Pos} (ho:PE X o (tE X.K cf ca)) (hsup:notSup o=true) (hl:(apos.endLine == cpos.line)=true) :
  PE X (.Call (.Attribute o "clear" apos) [] [] cpos) (tE X.K cf (.clr ca)):=by
 refine PE.imp (pe_bm0 PySem.F.plainAttrs_list PySem.F.slot_list_clear PySem.F.type_list_clear mt_clear ho (sup_of hsup "clear" X.env _) hl) fun σ H Qv ⟨δ,ι,S,Q,hs,hh,w,q⟩=>?_
 simp only [evE,W_bind] at w
 refine tE.run hs hh w fun d v ι1 H1 S1 x1 hs1 hh1 r1 w1=>?_
 split at w1
 · rename_i c
   refine ⟨isL_ok hh1 r1 c,?_⟩
   cases d with
   | ref l =>
     obtain ⟨a,h1,rfl⟩:=r1
     dsimp only at w1
     cases e:S1.get l with
     |none=>simp [isL,e] at c
     | some o =>
       cases o with
       | lst es =>
         obtain ⟨b',h2,zs,ha,rz⟩:=hh1.obj _ _ e
         rw [h1] at h2;cases h2
         obtain ⟨c2,S',hp,w3⟩:=wr_ex w1
         exact ⟨a,zs,rfl,rfl,ha,q _ _ (Lf.up x1 (Lf.wr (d:=.non) (xs:=[]) hh1 e h1 hp rfl rfl w3))⟩
       |_=>simp [isL,e] at c
   |_=>exact w1.elim
 · exact w1.elim
end
end R
end
section
namespace R
open PySem PySem.Spec PyProof.Rows L2
variable [Mks]
noncomputable def LfS (K:PySem.W.Frag) (ι:List Addr) (H:Hp) (Q:Fl->R.St->Prop) (E:Ends):Prop:=∀f ι' H' S',Ext ι H ι' H'->RH K ι' H' S'->Q f S'->(match f with
 |.nx δ'=>∀σ',RS K ι' H' δ' σ'->E.nx σ' H'
 |.rt d=>∀v,RV K ι' H' d v->E.rt v H')
noncomputable def tS (K:PySem.W.Frag) (cf:CF) (cs:CS):TS:=fun E σ H=>∃δ ι S Q,RS K ι H δ σ/\RH K ι H S/\W (exS cf cs δ S) Q/\LfS K ι H Q E
theorem LfS.up {K:PySem.W.Frag} {ι ι1:List Addr} {H H1:Hp} {Q:Fl->R.St->Prop} {E:Ends} (h:LfS K ι H Q E) (x:Ext ι H ι1 H1):LfS K ι1 H1 Q E:=fun f ι' H' S' x' hh q=>h f ι' H' S' (x.trans x') hh q
theorem PSs.imp {X:Cx} {st:List Stmt} {t t':TS} (h:PSs X st t) (i:∀E σ H,t' E σ H->t E σ H):PSs X st t':=fun pins s σ H E I q=>h pins s σ H E I (i E σ H q)
section
variable {T:Tab} {cf:CF} {k:Nat} {N:List Str} {sc:Scope} {X:Cx} {pos p:Pos} {rest:List Stmt}
theorem ss_nil:PSs X [] (tS X.K cf .nil):=PSs.imp pss_nil fun E σ H ⟨δ,ι,S,Q,hs,hh,w,l⟩=>by
 simp only [exS,W_ok] at w
 exact l _ ι H S (Ext.refl _ _) hh w σ hs
theorem ss_asg (G:Gd T cf k N sc X) {i:Nat} {x:Str} {ce:CE} {e:Expr} {r:CS} (hi:N[i]?=some x) (hl:isLoc sc x=true) (he:PE X e (tE X.K cf ce)) (hc:notComp e=true) (hr:PSs X rest (tS X.K cf r)) :
  PSs X (.Assign [.Name x p] e pos::rest) (tS X.K cf (.asg i ce r)):=by
 refine PSs.imp (pss_cons (ps_set (i:=i) (by rw [G.nm];exact G.nd) (by rw [G.nm];exact hi) (G.lc hl).1 he (swap_of hc _ _ _) (G.lc hl).2) hr) fun E σ H ⟨δ,ι,S,Q,hs,hh,w,l⟩=>?_
 simp only [exS,W_bind] at w
 refine tE.run hs hh w fun d v ι1 H1 S1 x1 hs1 hh1 r1 w1=>?_
 exact ⟨δ.set i (some d),ι1,S1,Q,hs1.set r1 i,hh1,w1,l.up x1⟩
theorem ss_asgC (G:Gd T cf k N sc X) {i:Nat} {x:Str} {ce:CE} {e:Expr} {r:CS} (hi:N[i]?=some x) (hps:∃t,PS X (.Assign [.Name x p] e pos) (tAsg t (gName i))/\∀σ H Qv,tE X.K cf ce σ H Qv->t σ H Qv) (hr:PSs X rest (tS X.K cf r)) :
  PSs X (.Assign [.Name x p] e pos::rest) (tS X.K cf (.asg i ce r)):=by
 obtain ⟨t,hp,ht⟩:=hps
 refine PSs.imp (pss_cons hp hr) fun E σ H ⟨δ,ι,S,Q,hs,hh,w,l⟩=>?_
 simp only [exS,W_bind] at w
 refine ht _ _ _ (tE.run hs hh w fun d v ι1 H1 S1 x1 hs1 hh1 r1 w1=>?_)
 exact ⟨δ.set i (some d),ι1,S1,Q,hs1.set r1 i,hh1,w1,l.up x1⟩
theorem ss_expr {ce:CE} {e:Expr} {r:CS} (he:PE X e (tE X.K cf ce)) (hc:notComp e=true) (hr:PSs X rest (tS X.K cf r)):PSs X (.Expr e pos::rest) (tS X.K cf (.expr ce r)):=by
 refine PSs.imp (pss_cons (ps_expr he (swap_of hc _ _ _)) hr) fun E σ H ⟨δ,ι,S,Q,hs,hh,w,l⟩=>?_
 simp only [exS,W_bind] at w
 refine tE.run hs hh w fun d v ι1 H1 S1 x1 hs1 hh1 r1 w1=>?_
 exact ⟨δ,ι1,S1,Q,hs1,hh1,w1,l.up x1⟩
theorem ss_ret {ce:CE} {e:Expr} {r:CS} (he:PE X e (tE X.K cf ce)) (hr:PSs X rest (tS X.K cf r)):PSs X (.Return (some e) pos::rest) (tS X.K cf (.ret ce r)):=by
 refine PSs.imp (pss_cons (ps_ret he) hr) fun E σ H ⟨δ,ι,S,Q,hs,hh,w,l⟩=>?_
 simp only [exS,W_bind,W_ok] at w
 refine tE.run hs hh w fun d v ι1 H1 S1 x1 hs1 hh1 r1 w1=>?_
 exact l _ _ _ _ x1 hh1 w1 v r1
theorem ss_if {cc:CE} {c:Expr} {a b:List Stmt} {ca cb r:CS} (hc:PT X c (tT X.K cf cc)) (ha:PSs X a (tS X.K cf ca)) (hb:PSs X b (tS X.K cf cb)) (hr:PSs X rest (tS X.K cf r)):PSs X (.If c a b pos::rest) (tS X.K cf (.ifS cc ca cb r)):=by
 refine PSs.imp (pss_cons (ps_if hc ha hb) hr) fun E σ H ⟨δ,ι,S,Q,hs,hh,w,l⟩=>?_
 simp only [exS,W_bind] at w
 refine tT.run hs hh w fun z ι1 H1 S1 x1 hs1 hh1 w1=>?_
 have fin:LfS X.K ι1 H1 (fun f S2=>W (match f with|.nx δ'=>exS cf r δ' S2|.rt d=>.ok (.rt d) S2) Q) {E with nx:=tS X.K cf r E}:=by
  intro f ι2 H2 S2 x2 hh2 q
  cases f with
  |nx δ'=>exact fun σ' hs'=>⟨δ',ι2,S2,Q,hs',hh2,q,(l.up x1).up x2⟩
  |rt d=>exact fun v rv=>(l.up x1) _ _ _ _ x2 hh2 q v rv
 cases z with
 |true=>exact ⟨δ,ι1,S1,_,hs1,hh1,w1,fin⟩
 |false=>exact ⟨δ,ι1,S1,_,hs1,hh1,w1,fin⟩
noncomputable def FInv (K:PySem.W.Frag) (cf:CF) (g:List Nat) (b:CS) (Qf:Fl->R.St->Prop) (ds:List D) (lks:List Nat) (ι1:List Addr) (H1:Hp) (S1:R.St) (i:Nat) (σ':L2.St) (H':Hp):Prop:=
 i<=ds.length/\∃δ' ι' S',RS K ι' H' δ' σ'/\Ltr K ι1 H1 S1 lks ι' H' S'/\S'.lk=lks++S1.lk/\S1.len<=S'.len/\W (turnsF g (exS cf b) (ds.drop i) δ' S') fun f S2=>Qf f {S2 with lk:=S1.lk}
theorem ss_for (G:Gd T cf k N sc X) {is:List Nat} {it:CL} {cb r:CS} {tg iter:Expr} {body:List Stmt} (hi:PI X tg iter (tI X.K cf it)) (hg:PG X tg (tG X.K is)) (hb:PSs X body (tS X.K cf cb)) (hset:notSet iter=true) (hr:PSs X rest (tS X.K cf r)) :
  PSs X (.For tg iter body [] pos::rest) (tS X.K cf (.forS is it cb r)):=by
 have hp:PassesOwn (model X.prog X.w) X.A X.env X.xe:=by rw [G.xe];exact PassesOwn.never
 refine PSs.imp (pss_cons (ps_for hp G.calm hi hg hb (fold_of hset X.env)) hr) fun E σ H ⟨δ,ι,S,Q,hs,hh,w,l⟩=>?_
 simp only [exS,W_bind] at w
 refine ⟨δ,ι,S,_,hs,hh,w,fun J H1 ⟨ds,lks,ι1,S1,x1,hh1,w1,wk⟩=>?_⟩
 dsimp only at w1
 unfold locked at w1
 rw [W_bind] at w1
 simp only [W_ok] at w1
 refine ⟨fun i m σ' H'=>m=ds.length - i/\FInv X.K cf is cb (fun f S2=>W (match f with|.nx δ'=>exS cf r δ' S2|.rt d=>.ok (.rt d) S2) Q) ds lks ι1 H1 S1 i σ' H',⟨_,rfl,Nat.zero_le _,δ,ι1,{S1 with lk:=lks++S1.lk},hs.ext x1,⟨Ext.refl _ _,hh1.lk _,fun l _=>rfl⟩,rfl,Nat.le_refl _,w1⟩,?_⟩
 rintro i m σ' H' ⟨rfl,hle,δ',ι',S',hs',lt,hlk,hln,wt⟩
 have l1:=l.up (x1.trans lt.ext)
 rcases Nat.lt_or_eq_of_le hle with hlt|rfl
 · refine .inr ⟨wk.go i ι' H' S' lt hlt,FInv X.K cf is cb _ ds lks ι1 H1 S1 (i+1),fun σ2 H2 h=>⟨_,by omega,rfl,h⟩,fun x H2 hy=>?_⟩
   obtain ⟨x2,hh2,d,hd,rd⟩:=wk.yld i ι' H' S' x H2 lt hlt hy
   rw [drop_cons hd] at wt
   simp only [turnsF] at wt
   cases ea:asgG is d δ' with
   |none=>rw [ea] at wt;exact wt.elim
   | some δ2 =>
     rw [ea] at wt
     dsimp only at wt
     rw [W_bind] at wt
     refine ⟨δ',ι',d,δ2,hs'.ext x2,rd,ea,fun σ2 hs3=>⟨δ2,ι',S',_,hs3,hh2,exS_F G.tab.frm cb δ2 S' _ wt,?_⟩⟩
     rintro f ι3 H3 S3 x3 hh3 ⟨w3,f3⟩
     have k1:S3.lk=lks++S1.lk:=f3.lk.trans hlk
     have k3:∀l∈lks,S3.get l=S1.get l:=fun l hl=>(f3.same l (by rw [hlk];exact List.mem_append_left _ hl) (Nat.lt_of_lt_of_le (wk.lks l hl) hln)).trans (lt.lck l hl)
     cases f with
     |nx δ3=>exact fun σ3 hs4=>⟨hlt,δ3,ι3,S3,hs4,⟨(lt.ext.trans x2).trans x3,hh3,k3⟩,k1,Nat.le_trans hln f3.lens,w3⟩
     |rt z=>exact fun v rv=>l1 _ _ _ _ (x2.trans x3) (hh3.lk _) w3 v rv
 · refine .inl ⟨wk.stop _ ι' H' S' lt (Nat.le_refl _),?_⟩
   rw [List.drop_length] at wt
   simp only [turnsF,W_ok] at wt
   exact ⟨δ',ι',{S' with lk:=S1.lk},Q,hs',lt.rh.lk _,wt,l1⟩
theorem ss_setF (G:Gd T cf k N sc X) {ca ce:CE} {a e:Expr} {f:Str} {r:CS} (hf:T.flds.contains f=true) (ha:PE X a (tE X.K cf ca)) (he:PE X e (tE X.K cf ce)) (hc:notComp e=true) (hr:PSs X rest (tS X.K cf r)) :
  PSs X (.Assign [.Attribute a f p] e pos::rest) (tS X.K cf (.setF ca f ce r)):=by
 refine PSs.imp (pss_cons (ps_fld ha he (swap_of hc _ _ _)) hr) fun E σ H ⟨δ,ι,S,Q,hs,hh,w,l⟩=>?_
 simp only [exS,W_bind] at w
 refine tE.run hs hh w fun d v ι1 H1 S1 x1 hs1 hh1 r1 w1=>?_
 refine tE.run hs1 hh1 w1 fun x vx ι2 H2 S2 x2 hs2 hh2 r2 w2=>?_
 cases ed:setFld S2 x f d with
 |none=>rw [ed] at w2;exact w2.elim
 | some S3 =>
   rw [ed] at w2
   unfold setFld at ed
   cases x with
   | ref i =>
     obtain ⟨b,h1,rfl⟩:=r2
     dsimp only at ed
     cases eo:S2.get i with
     |none=>rw [eo] at ed;cases ed
     | some ob =>
       rw [eo] at ed
       cases ob with
       | ins c fs =>
         obtain ⟨b',h2,C,dx,ws,hC,hb,rf⟩:=hh2.obj _ _ eo
         rw [h1] at h2;cases h2
         dsimp only at ed
         split at ed
         · rename_i c2
           obtain ⟨_,_,cl,_,na⟩:=G.clsAt (.inl (ne_of hf)) hC
           have rv:=r1.ext x2
           have xw:=Ext.wr hh2 eo h1 (.ins C dx (putF f v ws))
           refine ⟨b,C,dx,ws,rfl,hb,cl,na f hf,by rw [rf.length];exact c2,δ,ι2,S3,Q,hs2.ext xw,hh2.wr eo h1 ed ⟨C,dx,_,hC,upd_same,(rf.put f rv).up xw.pre xw.kp⟩,w2,l.up ((x1.trans x2).trans xw)⟩
         · cases ed
       |_=>cases ed
   |_=>cases ed
theorem ss_asgT (G:Gd T cf k N sc X) {is:List Nat} {ce:CE} {e:Expr} {es:List Expr} {j:Nat} {r:CS} (hn:namesB sc N is es=true) (h2:2<=is.length) (he:PE X e (tE X.K cf ce)) (hx:∃x q,e=.Name x q) (hr:PSs X rest (tS X.K cf r)) :
  PSs X (.Assign [.Tuple es j p] e pos::rest) (tS X.K cf (.asgT is ce r)):=by
 obtain ⟨x,q,rfl⟩:=hx
 refine PSs.imp (pss_cons (ps_asg he (sg_tup G hn h2)) hr) fun E σ H ⟨δ,ι,S,Q,hs,hh,w,l⟩=>?_
 simp only [exS,W_bind] at w
 refine tE.run hs hh w fun d v ι1 H1 S1 x1 hs1 hh1 r1 w1=>?_
 obtain ⟨δ2,ea,w2⟩:=W_lift' w1
 exact ⟨δ,ι1,d,δ2,hs1,r1,ea,fun σ' hs'=>⟨δ2,ι1,S1,Q,hs',hh1,w2,l.up x1⟩⟩
theorem ss_retN {r:CS} (hr:PSs X rest (tS X.K cf r)):PSs X (.Return none pos::rest) (tS X.K cf (.retN r)):=by
 refine PSs.imp (pss_cons ps_retN hr) fun E σ H ⟨δ,ι,S,Q,hs,hh,w,l⟩=>?_
 simp only [exS,W_ok] at w
 exact l _ _ _ _ (Ext.refl _ _) hh w .non rfl
end
end R
end
section
namespace R
open PySem PySem.Spec PyProof.Rows L2
variable [Mks]
noncomputable def isTmp:CL->Bool|.comp ..=>true|_=>false
noncomputable def isR1:CL->Bool|.rng1 _=>true|_=>false
noncomputable def isRng:CL->Bool|.rng1 _=>true|.rng2 _ _=>true|.zip _ _=>true|_=>false
noncomputable def isZipL:CL->Bool|.zip _ _=>true|_=>false
noncomputable def isTupE:Expr->Bool|.Tuple _ _ _=>true|_=>false
noncomputable def tgsOf:Expr->List Str
 |.Name x _=>[x]
 |.Tuple es _ _=>es.filterMap fun|.Name x _=>some x|_=>none
 |_=>[]
noncomputable def compB (sc scope:Scope) (N:List Str) (js:List Nat):Bool:=
 decide (scope.kind=.function)&&scope.names.all (fun y=>decide (y.2≠.cell))&&scope.names.all (fun y=>decide (y.2≠.local) || decide (scope.names.lookup y.1=some .local))
  && scope.names.all (fun y=>decide (y.2≠.free) || decide (sc.names.lookup y.1=some .cell) || decide (sc.names.lookup y.1=some .free))&&js.all (fun j=>decide (scope.names.lookup (N.getD j "")=some .free)&&decide (j<N.length))
noncomputable def nmB (x:Str):Bool:=!(x == ("__debug__":Str))&&!(x == ("__classdict__":Str))&&!(x == ("__name__":Str))
noncomputable def tyB (t:String) (y:Str):Bool:=(t == "bool"&&y == ("bool":Str)) || (t == "int"&&y == ("int":Str)) || (t == "str"&&y == ("str":Str)) || (t == "list"&&y == ("list":Str)) || (t == "tuple"&&y == ("tuple":Str)) || (t == "dict"&&y == ("dict":Str))
noncomputable def biB:Bi->Str->Nat->Bool
 |.len,x,n=>x == ("len":Str)&&n == 1
 |.abs,x,n=>x == ("abs":Str)&&n == 1
 |.max2,x,n=>x == ("max":Str)&&n == 2
 |.min2,x,n=>x == ("min":Str)&&n == 2
 |.isin _,_,_=>false
noncomputable def rdName:Expr->Option Str|.Name x _=>some x|_=>none
noncomputable def rdConst:Expr->Option Const|.Constant c _ _=>some c|_=>none
noncomputable def rdBin:Expr->Option (Expr × Operator × Expr)|.BinOp l o r _=>some (l,o,r)|_=>none
noncomputable def rdUn:Expr->Option (UnaryOp × Expr)|.UnaryOp o x _=>some (o,x)|_=>none
noncomputable def rdCmp:Expr->Option (Expr × List CmpOp × List Expr)|.Compare l os rs _=>some (l,os,rs)|_=>none
noncomputable def rdBool:Expr->Option (BoolOp × List Expr × Pos)|.BoolOp o vs p=>some (o,vs,p)|_=>none
noncomputable def rdIf:Expr->Option (Expr × Expr × Expr)|.IfExp t x y _=>some (t,x,y)|_=>none
noncomputable def rdTup:Expr->Option (List Expr)|.Tuple xs _ _=>some xs|_=>none
noncomputable def rdList:Expr->Option (List Expr)|.List xs _=>some xs|_=>none
noncomputable def rdDict0:Expr->Bool|.Dict ks vs _=>ks.isEmpty&&vs.isEmpty|_=>false
noncomputable def rdSub:Expr->Option (Expr × Expr)|.Subscript x i _=>some (x,i)|_=>none
noncomputable def rdCall:Expr->Option (Expr × List Expr × List Keyword × Pos)|.Call f as ks p=>some (f,as,ks,p)|_=>none
noncomputable def rdAttr:Expr->Option (Expr × Str × Pos)|.Attribute o x p=>some (o,x,p)|_=>none
noncomputable def rdLC:Expr->Option (Expr × List Comprehension × Scope × Pos)|.ListComp e gs sc p=>some (e,gs,sc,p)|_=>none
section
variable {e l r x y i f:Expr} {xs rs as:List Expr} {ks:List Keyword} {p:Pos}
theorem rdName_inv {n:Str} (h:rdName e=some n):∃p,e=.Name n p:=by cases e<;>first|(cases h;exact ⟨_,rfl⟩)|cases h
theorem rdConst_inv {c:Const} (h:rdConst e=some c):∃j p,e=.Constant c j p:=by cases e<;>first|(cases h;exact ⟨_,_,rfl⟩)|cases h
theorem rdBin_inv {o:Operator} (h:rdBin e=some (l,o,r)):∃p,e=.BinOp l o r p:=by cases e<;>first|(cases h;exact ⟨_,rfl⟩)|cases h
theorem rdUn_inv {o:UnaryOp} (h:rdUn e=some (o,x)):∃p,e=.UnaryOp o x p:=by cases e<;>first|(cases h;exact ⟨_,rfl⟩)|cases h
theorem rdCmp_inv {os:List CmpOp} (h:rdCmp e=some (l,os,rs)):∃p,e=.Compare l os rs p:=by cases e<;>first|(cases h;exact ⟨_,rfl⟩)|cases h
theorem rdBool_inv {o:BoolOp} (h:rdBool e=some (o,xs,p)):e=.BoolOp o xs p:=by cases e<;>first|(cases h;rfl)|cases h
theorem rdIf_inv (h:rdIf e=some (l,x,y)):∃p,e=.IfExp l x y p:=by cases e<;>first|(cases h;exact ⟨_,rfl⟩)|cases h
theorem rdTup_inv (h:rdTup e=some xs):∃j p,e=.Tuple xs j p:=by cases e<;>first|(cases h;exact ⟨_,_,rfl⟩)|cases h
theorem rdList_inv (h:rdList e=some xs):∃p,e=.List xs p:=by cases e<;>first|(cases h;exact ⟨_,rfl⟩)|cases h
theorem rdDict0_inv (h:rdDict0 e=true):∃p,e=.Dict [] [] p:=by
 cases e with
 | Dict ks vs p =>
   cases ks with
   |cons _ _=>cases h
   | nil =>
     cases vs with
     |cons _ _=>cases h
     |nil=>exact ⟨_,rfl⟩
 |_=>cases h
theorem rdSub_inv (h:rdSub e=some (x,i)):∃p,e=.Subscript x i p:=by cases e<;>first|(cases h;exact ⟨_,rfl⟩)|cases h
theorem rdCall_inv (h:rdCall e=some (f,as,ks,p)):e=.Call f as ks p:=by cases e<;>first|(cases h;rfl)|cases h
theorem rdAttr_inv {n:Str} (h:rdAttr e=some (x,n,p)):e=.Attribute x n p:=by cases e<;>first|(cases h;rfl)|cases h
theorem rdLC_inv {gs:List Comprehension} {sc:Scope} (h:rdLC e=some (x,gs,sc,p)):e=.ListComp x gs sc p:=by cases e<;>first|(cases h;rfl)|cases h
end
theorem any_inv {α:Type} {o:Option α} {f:α->Bool} (h:o.any f=true):∃x,o=some x/\f x=true:=by
 cases o with
 |none=>cases h
 |some x=>exact ⟨x,rfl,h⟩
noncomputable def one {α:Type}:List α->Option α | [x]=>some x|_=>none
theorem one_inv {α:Type} {xs:List α} {x:α} (h:one xs=some x):xs=[x]:=by
 match xs,h with
 | [y],h=>cases h;rfl
noncomputable def two {α:Type}:List α->Option (α × α) | [x,y]=>some (x,y)|_=>none
theorem two_inv {α:Type} {xs:List α} {x y:α} (h:two xs=some (x,y)):xs=[x,y]:=by
 match xs,h with
 | [a,b],h=>cases h;rfl
noncomputable def rdCallN (e:Expr):Option (Str × List Expr):=(rdCall e).bind fun q=>if q.2.2.1.isEmpty then (rdName q.1).map fun x=>(x,q.2.1) else none
theorem rdCallN_inv {e:Expr} {x:Str} {as:List Expr} (h:rdCallN e=some (x,as)):∃p2 p,e=.Call (.Name x p2) as [] p:=by
 unfold rdCallN at h
 cases q:rdCall e with
 |none=>rw [q] at h;cases h
 | some z =>
   obtain ⟨f,bs,ks,p⟩:=z
   rw [q] at h
   dsimp only [Option.bind_some] at h
   split at h
   · rename_i c
     cases q2:rdName f with
     |none=>rw [q2] at h;cases h
     | some y =>
       rw [q2] at h
       obtain ⟨p2,rfl⟩:=rdName_inv q2
       cases ks with
       |cons _ _=>cases c
       |nil=>cases h;exact ⟨p2,p,rdCall_inv q⟩
   · cases h
noncomputable def rdCall1 (e:Expr):Option (Str × Expr):=(rdCallN e).bind fun q=>(one q.2).map fun a=>(q.1,a)
theorem rdCall1_inv {e a:Expr} {x:Str} (h:rdCall1 e=some (x,a)):∃p2 p,e=.Call (.Name x p2) [a] [] p:=by
 unfold rdCall1 at h
 cases q:rdCallN e with
 |none=>rw [q] at h;cases h
 | some z =>
   obtain ⟨y,bs⟩:=z
   rw [q] at h
   dsimp only [Option.bind_some] at h
   cases q2:one bs with
   |none=>rw [q2] at h;cases h
   | some b =>
     rw [q2] at h
     cases h
     rw [one_inv q2] at q
     exact rdCallN_inv q
noncomputable def rdMeth (e:Expr):Option (Expr × Str × Pos × Expr × Pos):=(rdCall e).bind fun q=>if q.2.2.1.isEmpty then (rdAttr q.1).bind fun a=>(one q.2.1).map fun y=>(a.1,a.2.1,a.2.2,y,q.2.2.2) else none
theorem rdMeth_inv {e o a:Expr} {x:Str} {ap cp:Pos} (h:rdMeth e=some (o,x,ap,a,cp)):e=.Call (.Attribute o x ap) [a] [] cp:=by
 unfold rdMeth at h
 cases q:rdCall e with
 |none=>rw [q] at h;cases h
 | some z =>
   obtain ⟨f,bs,ks,p⟩:=z
   rw [q] at h
   dsimp only [Option.bind_some] at h
   split at h
   · rename_i c
     cases q2:rdAttr f with
     |none=>rw [q2] at h;cases h
     | some y =>
       obtain ⟨o',x',ap'⟩:=y
       rw [q2] at h
       dsimp only [Option.bind_some] at h
       cases q3:one bs with
       |none=>rw [q3] at h;cases h
       | some b =>
         rw [q3] at h
         cases h
         cases ks with
         |cons _ _=>cases c
         |nil=>rw [rdCall_inv q,rdAttr_inv q2,one_inv q3]
   · cases h
noncomputable def rdMethN (e:Expr):Option (Expr × Str × Pos × List Expr × Pos):=(rdCall e).bind fun q=>if q.2.2.1.isEmpty then (rdAttr q.1).map fun a=>(a.1,a.2.1,a.2.2,q.2.1,q.2.2.2) else none
theorem rdMethN_inv {e o:Expr} {as:List Expr} {x:Str} {ap cp:Pos} (h:rdMethN e=some (o,x,ap,as,cp)):e=.Call (.Attribute o x ap) as [] cp:=by
 unfold rdMethN at h
 cases q:rdCall e with
 |none=>rw [q] at h;cases h
 | some z =>
   obtain ⟨f,bs,ks,p⟩:=z
   rw [q] at h
   dsimp only [Option.bind_some] at h
   split at h
   · rename_i c
     cases q2:rdAttr f with
     |none=>rw [q2] at h;cases h
     | some y =>
       obtain ⟨o',x',ap'⟩:=y
       rw [q2] at h
       cases h
       cases ks with
       |cons _ _=>cases c
       |nil=>rw [rdCall_inv q,rdAttr_inv q2]
   · cases h
noncomputable def fnB (T:Tab) (f j:Nat) (x:Str):Bool:=match T.fns[f]? with|some (y,_,nd)=>(y == x)&&decide (j<=nd)|none=>false
noncomputable def conG (T:Tab) (d:D) (x:Str):Bool:=match T.cons.lookup x with|some d'=>eqC d' d|none=>false
noncomputable def isConE:CE->Bool|.con _=>true|_=>false
noncomputable def isCompL:CL->Bool|.comp ..=>true|_=>false
noncomputable def isTrueT:CE->Bool|.tst (.con (.bl true))=>true|_=>false
noncomputable def oneEs:CEs->Bool|.cons _ .nil=>true|_=>false
noncomputable def nilEs:CEs->Bool|.nil=>true|_=>false
noncomputable def mtN:Mt->Str->Bool
 |.append,x=>x == ("append":Str)
 |.popAt,x=>x == ("pop":Str)
 |.count,x=>x == ("count":Str)
noncomputable def isinT:Bi->Option String|.isin t=>some t|_=>none
noncomputable def tgB (sc:Scope) (N:List Str) (g:List Nat) (tg:Expr):Bool:=match rdName tg with
 |some x=>(match one g with|some i=>(N[i]? == some x)&&isLoc sc x|none=>false)
 |none=>(rdTup tg).any fun es=>decide (2<=g.length)&&namesB sc N g es
mutual
noncomputable def chkE (T:Tab):CE->List Str->Scope->Expr->Bool
 |.loc i,N,sc,e=>(rdName e).any fun x=>(N[i]? == some x)&&isVis sc x&&nmB x
 |.con d,_,sc,e=>(rdConst e).any (fun c=>conB d c) || (rdName e).any fun x=>isGl sc x&&conG T d x&&nmB x
 |.tst _,_,_,_=>false
 |.bin op a b,N,sc,e=>(rdBin e).any fun q=>decide (q.2.1=op)&&chkE T a N sc q.1&&chkE T b N sc q.2.2
 |.neg a,N,sc,e=>(rdUn e).any fun q=>decide (q.1=.USub)&&chkE T a N sc q.2
 |.nt a,N,sc,e=>(rdUn e).any fun q=>decide (q.1=.Not)&&chkE T a N sc q.2
 |.cmp op a b,N,sc,e=>(rdCmp e).any fun q=>decide (q.2.1=[op])&&(one q.2.2).any fun r=>notSet r&&chkE T a N sc q.1&&chkE T b N sc r
 |.and a b,N,sc,e=>(rdBool e).any fun q=>decide (q.1=.And)&&(match q.2.1 with
  |x::y::rest=>chkE T a N sc x&&(if rest.isEmpty then chkE T b N sc y else chkE T b N sc (.BoolOp .And (y::rest) q.2.2))
  |_=>false)
 |.or a b,N,sc,e=>(rdBool e).any fun q=>decide (q.1=.Or)&&(match q.2.1 with
  |x::y::rest=>chkE T a N sc x&&(if rest.isEmpty then chkE T b N sc y else chkE T b N sc (.BoolOp .Or (y::rest) q.2.2))
  |_=>false)
 |.ite c a b,N,sc,e=>(rdIf e).any fun q=>chkT T c N sc q.1&&chkE T a N sc q.2.1&&chkE T b N sc q.2.2
 |.tup es,N,sc,e=>(rdTup e).any fun xs=>chkEs T es N sc xs
 |.lst es,N,sc,e=>(rdList e).any fun xs=>chkEs T es N sc xs
 |.dnew,_,_,e=>rdDict0 e
 |.dnewT,_,_,e=>rdDict0 e
 |.ix a b,N,sc,e=>(rdSub e).any fun q=>notSlice q.2&&chkE T a N sc q.1&&chkE T b N sc q.2
 |.fld a f,N,sc,e=>(rdAttr e).any fun q=>decide (q.2.1=f)&&notSup q.1&&T.flds.contains f&&chkE T a N sc q.1
 |.mk c f x es,N,sc,e=>(rdCallN e).any fun q=>decide (q.1=x)&&isGl sc x&&nmB x&&decide (T.cls[c]?=some x)&&T.inits.contains (c,f)&&(!q.2.isEmpty || nilEs es)&&chkEs T es N sc q.2
 |.meth m tb o es,N,sc,e=>(rdMethN e).any fun q=>decide (q.2.1=m)&&mtB T m tb&&notSup q.1&&(q.2.2.1.endLine == q.2.2.2.2.line)&&decide (q.2.2.2.1.length<29)&&(!q.2.2.2.1.isEmpty || nilEs es)&&chkE T o N sc q.1&&chkEs T es N sc q.2.2.2.1
 |.isc cs x a,N,sc,e=>(rdCallN e).any fun q=>(two q.2).any fun z=>(rdName z.2).any fun y=>(q.1 == ("isinstance":Str))&&bltB T sc q.1&&decide (y=x)&&isGl sc x&&nmB x&&T.isas.contains (x,cs)&&noStar z.1&&chkE T a N sc z.1
 |.callC f x m es,N,sc,e=>(rdMethN e).any fun q=>(rdName q.1).any fun y=>decide (y=x)&&decide (q.2.1=m)&&isGl sc x&&nmB x&&T.cms.contains (x,m,f)&&(q.2.2.1.endLine == q.2.2.2.2.line)&&decide (q.2.2.2.1.length<29)&&!q.2.2.2.1.isEmpty&&chkEs T es N sc q.2.2.2.1
 |.clr a,N,sc,e=>(rdMethN e).any fun q=>(q.2.1 == ("clear":Str))&&notSup q.1&&(q.2.2.1.endLine == q.2.2.2.2.line)&&q.2.2.2.1.isEmpty&&chkE T a N sc q.1
 |.call f j es,N,sc,e=>(rdCallN e).any fun q=>isGl sc q.1&&nmB q.1&&fnB T f j q.1&&(!q.2.isEmpty || nilEs es)&&chkEs T es N sc q.2
 |.bi b es,N,sc,e=>(rdCallN e).any fun q=>bltB T sc q.1&&nmB q.1&&(match isinT b with
  |some t=>(two q.2).any fun z=>(rdName z.2).any fun y=>(q.1 == ("isinstance":Str))&&tyB t y&&bltB T sc y&&nmB y&&oneEs es&&chkEs T es N sc [z.1]
  |none=>biB b q.1 q.2.length&&!q.2.isEmpty&&chkEs T es N sc q.2)
 |.mt m o es,N,sc,e=>(rdMeth e).any fun q=>mtN m q.2.1&&notSup q.1&&(q.2.2.1.endLine == q.2.2.2.2.line)&&oneEs es&&chkE T o N sc q.1&&chkEs T es N sc [q.2.2.2.1]
 |.mkL l,N,sc,e=>if isCompL l then (if (rdLC e).isSome then chkL T l N sc e else (rdCall1 e).any fun q=>(q.1 == ("list":Str))&&bltB T sc q.1&&noStar q.2&&chkL T l N sc q.2)
  else (rdCall1 e).any fun q=>(q.1 == ("list":Str))&&bltB T sc q.1&&noStar q.2&&(!(isRng l) || isR1 l)&&chkL T l N sc q.2
 |.all l,N,sc,e=>(rdCall1 e).any fun q=>(q.1 == ("all":Str))&&bltB T sc q.1&&noStar q.2&&!(isRng l)&&chkL T l N sc q.2
noncomputable def chkEs (T:Tab):CEs->List Str->Scope->List Expr->Bool
 |.nil,_,_,es=>es.isEmpty
 |.cons a r,N,sc,es=>(match es with | []=>false|e::es=>noStar e&&chkE T a N sc e&&chkEs T r N sc es)
noncomputable def chkT (T:Tab):CE->List Str->Scope->Expr->Bool
 |.cmp op a b,N,sc,e=>(rdCmp e).any fun q=>decide (q.2.1=[op])&&(one q.2.2).any fun r=>notSet r&&chkE T a N sc q.1&&chkE T b N sc r
 |.nt a,N,sc,e=>(rdUn e).any fun q=>decide (q.1=.Not)&&chkT T a N sc q.2
 |.and a b,N,sc,e=>(rdBool e).any fun q=>decide (q.1=.And)&&(match q.2.1 with
  |x::y::rest=>chkT T a N sc x&&(if rest.isEmpty then chkT T b N sc y else chkT T b N sc (.BoolOp .And (y::rest) q.2.2))
  |_=>false)
 |.or a b,N,sc,e=>(rdBool e).any fun q=>decide (q.1=.Or)&&(match q.2.1 with
  |x::y::rest=>chkT T a N sc x&&(if rest.isEmpty then chkT T b N sc y else chkT T b N sc (.BoolOp .Or (y::rest) q.2.2))
  |_=>false)
 |.tst a,N,sc,e=>plainT e&&chkE T a N sc e
 |_,_,_,_=>false
noncomputable def chkL (T:Tab):CL->List Str->Scope->Expr->Bool
 |.val a,N,sc,e=>notSet e&&chkE T a N sc e
 |.rng1 a,N,sc,e=>(rdCall1 e).any fun q=>(q.1 == ("range":Str))&&bltB T sc q.1&&noStar q.2&&chkE T a N sc q.2
 |.rng2 a b,N,sc,e=>(rdCallN e).any fun q=>(two q.2).any fun z=>(q.1 == ("range":Str))&&bltB T sc q.1&&noStar z.1&&noStar z.2&&chkE T a N sc z.1&&chkE T b N sc z.2
 |.zip a b,N,sc,e=>(rdCallN e).any fun q=>(two q.2).any fun z=>(q.1 == ("zip":Str))&&bltB T sc q.1&&noStar z.1&&noStar z.2&&chkE T a N sc z.1&&chkE T b N sc z.2
 |.comp nt js g it c e,N,sc,ex=>(rdLC ex).any fun q=>(one q.2.1).any fun z=>decide (z.is_async=0)&&compB sc q.2.2.1 N js&&(notSet z.iter&&(isTupE z.target || !(isZipL it)))&&chkL T it N sc z.iter&&decide ((tgsOf z.target).length=nt)&&decide ((capN N (tgsOf z.target) js).Nodup)
  && tgB q.2.2.1 (capN N (tgsOf z.target) js) g z.target
  && (if z.ifs.isEmpty then isTrueT c else (one z.ifs).any fun t=>chkT T c (capN N (tgsOf z.target) js) q.2.2.1 t)
  && chkE T e (capN N (tgsOf z.target) js) q.2.2.1 q.1
end
noncomputable def rdAsg:Stmt->Option (Expr × Expr × Pos)|.Assign tgs v p=>(one tgs).map fun t=>(t,v,p)|_=>none
noncomputable def rdIfS:Stmt->Option (Expr × List Stmt × List Stmt)|.If e a b _=>some (e,a,b)|_=>none
noncomputable def rdFor:Stmt->Option (Expr × Expr × List Stmt)|.For tg it b els _=>if els.isEmpty then some (tg,it,b) else none|_=>none
noncomputable def rdRet:Stmt->Option Expr|.Return v _=>v|_=>none
noncomputable def rdExp:Stmt->Option Expr|.Expr v _=>some v|_=>none
noncomputable def rdRetN:Stmt->Bool|.Return none _=>true|_=>false
section
variable {s:Stmt} {e v tg it:Expr} {a b:List Stmt} {p:Pos}
theorem rdAsg_inv (h:rdAsg s=some (tg,v,p)):s=.Assign [tg] v p:=by
 cases s with
 | Assign tgs v p =>
   simp only [rdAsg] at h
   cases q:one tgs with
   |none=>rw [q] at h;cases h
   |some t=>rw [q] at h;cases h;rw [one_inv q]
 |_=>cases h
theorem rdIfS_inv (h:rdIfS s=some (e,a,b)):∃p,s=.If e a b p:=by cases s<;>first|(cases h;exact ⟨_,rfl⟩)|cases h
theorem rdFor_inv (h:rdFor s=some (tg,it,b)):∃p,s=.For tg it b [] p:=by
 cases s with
 | For tg it b els p =>
   simp only [rdFor] at h
   cases els with
   |nil=>cases h;exact ⟨_,rfl⟩
   |cons _ _=>cases h
 |_=>cases h
theorem rdRet_inv (h:rdRet s=some e):∃p,s=.Return (some e) p:=by
 cases s with
 |Return v p=>simp only [rdRet] at h;subst h;exact ⟨_,rfl⟩
 |_=>cases h
theorem rdExp_inv (h:rdExp s=some e):∃p,s=.Expr e p:=by cases s<;>first|(cases h;exact ⟨_,rfl⟩)|cases h
theorem rdRetN_inv (h:rdRetN s=true):∃p,s=.Return none p:=by
 cases s with
 | Return v p =>
   cases v with
   |none=>exact ⟨_,rfl⟩
   |some _=>cases h
 |_=>cases h
end
noncomputable def chkS (T:Tab):CS->List Str->Scope->List Stmt->Bool
 |.nil,_,_,st=>st.isEmpty
 |.asg i e r,N,sc,st=>(match st with | []=>false|s::rest=>(rdAsg s).any fun q=>(rdName q.1).any fun x=>(N[i]? == some x)&&isLoc sc x&&chkE T e N sc q.2.1&&chkS T r N sc rest)
 |.asgT g e r,N,sc,st=>(match st with | []=>false|s::rest=>(rdAsg s).any fun q=>(rdTup q.1).any fun es=>(rdName q.2.1).isSome&&decide (2<=g.length)&&namesB sc N g es&&chkE T e N sc q.2.1&&chkS T r N sc rest)
 |.setF a f e r,N,sc,st=>(match st with | []=>false|s::rest=>(rdAsg s).any fun q=>(rdAttr q.1).any fun z=>decide (z.2.1=f)&&T.flds.contains f&&notComp q.2.1&&chkE T a N sc z.1&&chkE T e N sc q.2.1&&chkS T r N sc rest)
 |.retN r,N,sc,st=>(match st with | []=>false|s::rest=>rdRetN s&&chkS T r N sc rest)
 |.ifS c t u r,N,sc,st=>(match st with | []=>false|s::rest=>(rdIfS s).any fun q=>chkT T c N sc q.1&&chkS T t N sc q.2.1&&chkS T u N sc q.2.2&&chkS T r N sc rest)
 |.forS g l b r,N,sc,st=>(match st with | []=>false|s::rest=>(rdFor s).any fun q=>notSet q.2.1&&chkL T l N sc q.2.1&&chkS T b N sc q.2.2&&chkS T r N sc rest&&(tgB sc N g q.1&&(isTupE q.1 || !(isZipL l))))
 |.ret e r,N,sc,st=>(match st with | []=>false|s::rest=>(rdRet s).any fun v=>chkE T e N sc v&&chkS T r N sc rest)
 |.expr e r,N,sc,st=>(match st with | []=>false|s::rest=>(rdExp s).any fun v=>notComp v&&chkE T e N sc v&&chkS T r N sc rest)
end R
end
section
set_option maxHeartbeats 8000000
namespace R
open PySem PySem.Spec PyProof.Rows L2
variable [Mks]
section
variable {T:Tab} {cf:CF} {k:Nat} {N:List Str} {sc:Scope} {X:Cx}
theorem lookup_relab (env:Env) (x:Str):∀{names:List (Str × NameKind)} {k0:NameKind},names.lookup x=some k0->k0≠.free->(names.map (relab env)).lookup x=some k0
 | [],_,h,_=>by simp at h
 | y :: r, k0, h, hk => by
   rw [List.map_cons]
   have f1:=relab_fst env y
   have f2:=relab_snd env y
   obtain ⟨n,k1⟩:=y
   generalize hz:relab env (n,k1)=z at *
   obtain ⟨zn,zk⟩:=z
   simp only at f1 f2
   subst f1
   rw [List.lookup_cons] at h⊢
   cases hx:x == zn with
   | true =>
     rw [hx] at h
     have e:k1=k0:=Option.some.inj h
     subst e
     rcases f2 with f2|⟨q,_⟩
     · show some zk=_;rw [f2]
     · exact absurd q hk
   | false =>
     rw [hx] at h
     exact lookup_relab env x h hk
theorem compB_ok (G:Gd T cf k N sc X) {scope:Scope} {js:List Nat} (h:compB sc scope N js=true):CompOk X.env.scope scope X.N js:=by
 unfold compB at h
 simp only [Bool.and_eq_true,List.all_eq_true,decide_eq_true_eq,Bool.or_eq_true] at h
 obtain ⟨⟨⟨⟨h1,h2⟩,h3⟩,h4⟩,h5⟩:=h
 refine ⟨h1,h2,fun y hy e=>?_,fun y hy e=>?_,fun j hj=>?_⟩
 · rcases h3 y hy with z|z
   · exact absurd e z
   · exact z
 · rcases h4 y hy with (z|z)|z
   · exact absurd e z
   · exact .inl (G.cell _ z)
   · exact (G.free _ z).symm
 · rw [G.nm];exact h5 j hj
theorem gd_comp (G:Gd T cf k N sc X) {scope:Scope} {tgs:List Str} {js:List Nat} (ok:CompOk X.env.scope scope X.N js) (hn:(capN N tgs js).Nodup) (cl:List (Str × Addr)) (C:Addr) (fp:List Addr) (s:Shared) (H:Hp) (pn:List (Addr × Obj)) :
  Gd T cf k (capN N tgs js) scope (cxComp X (capN X.N tgs js) scope cl C fp s H pn):=by
 have names:(cxComp X (capN X.N tgs js) scope cl C fp s H pn).env.scope.names=scope.names.map (relab X.env):=relabel_names scope X.env
 have noc:∀x,scope.names.lookup x≠some .cell:=fun x e=>ok.nocell _ (PySem.mem_of_lookup e) rfl
 refine ⟨by rw [<-G.nm],hn,fun x e=>?_,fun x e=>absurd e (noc x),fun x e=>?_,fun x e=>?_,.inr noc,G.calm,rfl,G.room',G.tab⟩
 · rw [names];exact lookup_relab _ _ e (by decide)
 · rw [names];exact relab_lookup' _ _ _ e
 · rw [names];exact lookup_relab _ _ e (by decide)
theorem nmB_ok {x:Str} (h:nmB x=true):(x == ("__debug__":Str))=false/\(x == ("__classdict__":Str))=false/\x≠("__name__":Str):=by
 unfold nmB at h
 simp only [Bool.and_eq_true,Bool.not_eq_true'] at h
 exact ⟨h.1.1,h.1.2,fun e=>by rw [e] at h;simp at h⟩
theorem tyB_ok {t:String} {y:Str} (h:tyB t y=true):t∈["bool","int","str","list","tuple","dict"]/\bootBuiltins y=some (.type t):=by
 unfold tyB at h
 simp only [Bool.or_eq_true,Bool.and_eq_true,beq_iff_eq] at h
 rcases h with ((((⟨rfl,rfl⟩|⟨rfl,rfl⟩)|⟨rfl,rfl⟩)|⟨rfl,rfl⟩)|⟨rfl,rfl⟩)|⟨rfl,rfl⟩
 · exact ⟨by simp,bb_bool⟩
 · exact ⟨by simp,bb_int⟩
 · exact ⟨by simp,bb_str⟩
 · exact ⟨by simp,bb_list⟩
 · exact ⟨by simp,bb_tuple⟩
 · exact ⟨by simp,bb_dict⟩
theorem fn_of' {f j:Nat} {x:Str} (h:fnB T f j x=true):∃ps nd,T.fns[f]?=some (x,ps,nd)/\j<=nd:=by
 unfold fnB at h
 cases e:T.fns[f]? with
 |none=>rw [e] at h;cases h
 | some q =>
   obtain ⟨y,ps,nd⟩:=q
   rw [e] at h
   simp only [Bool.and_eq_true,beq_iff_eq,decide_eq_true_eq] at h
   obtain ⟨rfl,h2⟩:=h
   exact ⟨ps,nd,rfl,h2⟩
theorem chkEs_star:∀{ces:CEs} {N:List Str} {sc:Scope} {es:List Expr},chkEs T ces N sc es=true->es.all noStar=true
 | .nil, N, sc, es, h => by
   simp only [chkEs,List.isEmpty_iff] at h
   subst h;rfl
 | .cons a r, N, sc, es, h => by
   cases es with
   |nil=>simp [chkEs] at h
   | cons e es =>
     simp only [chkEs,Bool.and_eq_true] at h
     simp [h.1.1,chkEs_star h.2]
theorem chkE_one {es:CEs} (h:oneEs es=true):∃a,es=.cons a .nil:=by
 cases es with
 |nil=>cases h
 | cons a r =>
   cases r with
   |nil=>exact ⟨a,rfl⟩
   |cons _ _=>cases h
theorem call_bi_ok (G:Gd T cf k N sc X) {b:Bi} {x:Str} {n:Nat} (h:biB b x n=true):∃id,CallR X (.builtin id) (rB X.K fun S ds=>R.bi S b ds)/\bootBuiltins x=some (.builtin id):=by
 cases b with
 |len=>simp only [biB,Bool.and_eq_true,beq_iff_eq] at h;rw [h.1];exact ⟨_,len_ok,bb_len⟩
 |abs=>simp only [biB,Bool.and_eq_true,beq_iff_eq] at h;rw [h.1];exact ⟨_,abs_ok,bb_abs⟩
 |max2=>simp only [biB,Bool.and_eq_true,beq_iff_eq] at h;rw [h.1];exact ⟨_,max_ok G.calm,bb_max⟩
 |min2=>simp only [biB,Bool.and_eq_true,beq_iff_eq] at h;rw [h.1];exact ⟨_,min_ok G.calm,bb_min⟩
 |isin t=>simp [biB] at h
noncomputable def LOk (T:Tab) (cf:CF) (k:Nat) (cl:CL) (X:Cx) (e:Expr):Prop:=(isRng cl=false->PE X e (tL X.K cf cl))/\(isTmp cl=true->PE X e (tLt X.K cf cl))/\(∀tg,(isTupE tg || !(isZipL cl))=true->PI X tg e (tI X.K cf cl))/\
 ∀a,cl=.rng1 a->∃a' p2 p,e=.Call (.Name "range" p2) [a'] [] p/\(Gl X "range"/\X.mg "range"=none)/\PE X a' (tE X.K cf a)/\noStar a'=true
noncomputable def EsOk (cf:CF) (ces:CEs) (X:Cx) (es:List Expr):Prop:=PA X es (tAs X.K cf ces)/\∀a r e es',ces=.cons a r->es=e::es'->PE X e (tE X.K cf a)
theorem tg_ok {sc:Scope} {N:List Str} {X:Cx} {g:List Nat} {tg:Expr} (G:Gd T cf k N sc X) (h:tgB sc N g tg=true):PG X tg (tG X.K g):=by
 unfold tgB at h
 split at h
 · rename_i x q
   obtain ⟨p,rfl⟩:=rdName_inv q
   split at h
   · rename_i i q2
     rw [one_inv q2]
     simp only [Bool.and_eq_true,beq_iff_eq] at h
     exact sg_name G h.1 h.2
   · cases h
 · replace h:=any_inv h
   obtain ⟨es,q,h⟩:=h
   obtain ⟨j,p,rfl⟩:=rdTup_inv q
   simp only [Bool.and_eq_true,decide_eq_true_eq] at h
   exact sg_tup G h.2 h.1
theorem trueT_ok {c:CE} {X:Cx} (h:isTrueT c=true):PTs X [] (tT X.K cf c):=by
 have hc:c=.tst (.con (.bl true)):=by
  cases c with
  | tst a =>
    cases a with
    | con d =>
      cases d with
      | bl b =>
        cases b with
        |true=>rfl
        |false=>cases h
      |_=>cases h
    |_=>cases h
  |_=>cases h
 subst hc
 intro pins s' σ H' Qv I q
 refine pts_nil pins s' σ H' Qv I ?_
 obtain ⟨δ,ι,S,Q,hs,hh,w,q⟩:=q
 simp only [evT,evE,bind_ok,tru,lift_some,W_ok] at w
 exact q _ _ ⟨ι,S,Ext.refl _ _,hh,w⟩
theorem str_eq {x y:Str} (h:(x == y)=true):x=y:=by simpa using h
mutual
theorem chkE_ok:∀(ce:CE) {N:List Str} {sc:Scope} {e:Expr} {X:Cx},Gd T cf k N sc X->chkE T ce N sc e=true->PE X e (tE X.K cf ce)
 | .loc i, N, sc, e, X, G, h => by
   simp only [chkE] at h
   replace h:=any_inv h
   obtain ⟨x,q,h⟩:=h
   obtain ⟨p,rfl⟩:=rdName_inv q
   simp only [Bool.and_eq_true,beq_iff_eq] at h
   obtain ⟨h1,h2,_⟩:=nmB_ok h.2
   exact se_loc G h.1.1 h.1.2 h1 h2
 | .con d, N, sc, e, X, G, h => by
   simp only [chkE] at h
   rw [Bool.or_eq_true] at h
   rcases h with h|h
   · replace h:=any_inv h
     obtain ⟨c,q,h⟩:=h
     obtain ⟨j,p,rfl⟩:=rdConst_inv q
     exact se_con h
   · replace h:=any_inv h
     obtain ⟨x,q,h⟩:=h
     obtain ⟨p,rfl⟩:=rdName_inv q
     simp only [Bool.and_eq_true] at h
     obtain ⟨h1,h2,_⟩:=nmB_ok h.2
     have h3:=h.1.2
     unfold conG at h3
     split at h3
     · rename_i d' e'
       exact se_glob G h.1.1 e' h3 h1
     · cases h3
 |.tst a,N,sc,e,X,G,h=>by simp only [chkE] at h;cases h
 | .bin op a b, N, sc, e, X, G, h => by
   simp only [chkE] at h
   replace h:=any_inv h
   obtain ⟨⟨l,o,r⟩,q,h⟩:=h
   obtain ⟨p,rfl⟩:=rdBin_inv q
   simp only [Bool.and_eq_true,decide_eq_true_eq] at h
   obtain ⟨⟨rfl,h1⟩,h2⟩:=h
   exact se_bin (chkE_ok a G h1) (chkE_ok b G h2)
 | .neg a, N, sc, e, X, G, h => by
   simp only [chkE] at h
   replace h:=any_inv h
   obtain ⟨⟨o,x⟩,q,h⟩:=h
   obtain ⟨p,rfl⟩:=rdUn_inv q
   simp only [Bool.and_eq_true,decide_eq_true_eq] at h
   obtain ⟨rfl,h1⟩:=h
   exact se_neg (chkE_ok a G h1)
 | .nt a, N, sc, e, X, G, h => by
   simp only [chkE] at h
   replace h:=any_inv h
   obtain ⟨⟨o,x⟩,q,h⟩:=h
   obtain ⟨p,rfl⟩:=rdUn_inv q
   simp only [Bool.and_eq_true,decide_eq_true_eq] at h
   obtain ⟨rfl,h1⟩:=h
   exact se_nt (chkE_ok a G h1)
 | .cmp op a b, N, sc, e, X, G, h => by
   simp only [chkE] at h
   replace h:=any_inv h
   obtain ⟨⟨l,os,rs⟩,q,h⟩:=h
   obtain ⟨p,rfl⟩:=rdCmp_inv q
   rw [Bool.and_eq_true,decide_eq_true_eq] at h
   obtain ⟨e1,h⟩:=h
   replace h:=any_inv h
   obtain ⟨r,q2,h⟩:=h
   cases one_inv q2
   cases e1
   simp only [Bool.and_eq_true] at h
   exact se_cmp G (chkE_ok a G h.1.2) (chkE_ok b G h.2) h.1.1
 | .and a b, N, sc, e, X, G, h => by
   simp only [chkE] at h
   replace h:=any_inv h
   obtain ⟨⟨o,vs,p⟩,q,h⟩:=h
   cases rdBool_inv q
   rw [Bool.and_eq_true,decide_eq_true_eq] at h
   obtain ⟨e1,h⟩:=h
   cases e1
   dsimp only at h
   split at h
   · rename_i x y rest
     rw [Bool.and_eq_true] at h
     obtain ⟨h1,h2⟩:=h
     split at h2
     · rename_i c
       cases List.isEmpty_iff.mp c
       exact se_and (chkE_ok a G h1) (pe_one (chkE_ok b G h2))
     · exact se_and (chkE_ok a G h1) (chkE_ok b G h2)
   · cases h
 | .or a b, N, sc, e, X, G, h => by
   simp only [chkE] at h
   replace h:=any_inv h
   obtain ⟨⟨o,vs,p⟩,q,h⟩:=h
   cases rdBool_inv q
   rw [Bool.and_eq_true,decide_eq_true_eq] at h
   obtain ⟨e1,h⟩:=h
   cases e1
   dsimp only at h
   split at h
   · rename_i x y rest
     rw [Bool.and_eq_true] at h
     obtain ⟨h1,h2⟩:=h
     split at h2
     · rename_i c
       cases List.isEmpty_iff.mp c
       exact se_or (chkE_ok a G h1) (pe_one (chkE_ok b G h2))
     · exact se_or (chkE_ok a G h1) (chkE_ok b G h2)
   · cases h
 | .ite c a b, N, sc, e, X, G, h => by
   simp only [chkE] at h
   replace h:=any_inv h
   obtain ⟨⟨t,x,y⟩,q,h⟩:=h
   obtain ⟨p,rfl⟩:=rdIf_inv q
   simp only [Bool.and_eq_true] at h
   exact se_ite (chkT_ok c G h.1.1).1 (chkE_ok a G h.1.2) (chkE_ok b G h.2)
 | .tup es, N, sc, e, X, G, h => by
   simp only [chkE] at h
   replace h:=any_inv h
   obtain ⟨xs,q,h⟩:=h
   obtain ⟨j,p,rfl⟩:=rdTup_inv q
   exact se_tup (chkEs_ok es G h).1
 | .lst es, N, sc, e, X, G, h => by
   simp only [chkE] at h
   replace h:=any_inv h
   obtain ⟨xs,q,h⟩:=h
   obtain ⟨p,rfl⟩:=rdList_inv q
   exact se_lst (chkEs_ok es G h).1
 | .dnew, N, sc, e, X, G, h => by
   simp only [chkE] at h
   obtain ⟨p,rfl⟩:=rdDict0_inv h
   exact se_dnew
 | .dnewT, N, sc, e, X, G, h => by
   simp only [chkE] at h
   obtain ⟨p,rfl⟩:=rdDict0_inv h
   exact se_dnewT
 | .ix a b, N, sc, e, X, G, h => by
   simp only [chkE] at h
   replace h:=any_inv h
   obtain ⟨⟨x,i⟩,q,h⟩:=h
   obtain ⟨p,rfl⟩:=rdSub_inv q
   simp only [Bool.and_eq_true] at h
   exact se_ix (chkE_ok a G h.1.2) (chkE_ok b G h.2) h.1.1
 | .fld a f, N, sc, e, X, G, h => by
   simp only [chkE] at h
   replace h:=any_inv h
   obtain ⟨⟨o,f',p⟩,q,h⟩:=h
   cases rdAttr_inv q
   simp only [Bool.and_eq_true,decide_eq_true_eq] at h
   obtain ⟨⟨⟨rfl,h2⟩,h3⟩,h4⟩:=h
   exact se_fld G (chkE_ok a G h4) h2 h3
 | .mk c f x es, N, sc, e, X, G, h => by
   simp only [chkE] at h
   replace h:=any_inv h
   obtain ⟨⟨x',args⟩,q,h⟩:=h
   obtain ⟨p2,p,rfl⟩:=rdCallN_inv q
   simp only [Bool.and_eq_true,Bool.or_eq_true,decide_eq_true_eq] at h
   obtain ⟨⟨⟨⟨⟨⟨rfl,h1⟩,h2⟩,h3⟩,h4⟩,h5⟩,h6⟩:=h
   obtain ⟨n1,n2,n3⟩:=nmB_ok h2
   have ha:=(chkEs_ok es G h6).1
   cases args with
   | nil =>
     have:es=.nil:=by
      cases es with
      |nil=>rfl
      |cons _ _=>rcases h5 with z|z<;>cases z
     rw [this]
     exact se_mk0 G h4 h3 h1 n1
   |cons a as=>exact se_mk G h4 h3 h1 n1 ha (chkEs_star h6)
 | .meth m tb o es, N, sc, e, X, G, h => by
   simp only [chkE] at h
   replace h:=any_inv h
   obtain ⟨⟨oe,m',ap,args,cp⟩,q,h⟩:=h
   cases rdMethN_inv q
   simp only [Bool.and_eq_true,Bool.or_eq_true,decide_eq_true_eq] at h
   obtain ⟨⟨⟨⟨⟨⟨⟨rfl,h1⟩,h2⟩,h3⟩,h4⟩,h5⟩,h6⟩,h7⟩:=h
   have ho:=chkE_ok o G h6
   have ha:=(chkEs_ok es G h7).1
   cases args with
   | nil =>
     have:es=.nil:=by
      cases es with
      |nil=>rfl
      |cons _ _=>rcases h5 with z|z<;>cases z
     rw [this]
     exact se_meth0 G h1 ho h2 h3
   |cons a as=>exact se_meth G h1 ho ha (chkEs_star h7) h2 h3 h4
 | .isc cs x a, N, sc, e, X, G, h => by
   simp only [chkE] at h
   replace h:=any_inv h
   obtain ⟨⟨x',args⟩,q,h⟩:=h
   obtain ⟨p2,p,rfl⟩:=rdCallN_inv q
   replace h:=any_inv h
   obtain ⟨⟨e1,e2⟩,q2,h⟩:=h
   cases two_inv q2
   replace h:=any_inv h
   obtain ⟨y,q3,h⟩:=h
   obtain ⟨p3,rfl⟩:=rdName_inv q3
   simp only [Bool.and_eq_true,decide_eq_true_eq] at h
   obtain ⟨⟨⟨⟨⟨⟨⟨h0,h1⟩,rfl⟩,h2⟩,h3⟩,h4⟩,h5⟩,h6⟩:=h
   cases str_eq h0
   exact se_isc G (blt_of G h1) h2 (nmB_ok h3).1 h4 (chkE_ok a G h6) h5
 | .callC f x m es, N, sc, e, X, G, h => by
   simp only [chkE] at h
   replace h:=any_inv h
   obtain ⟨⟨oe,m',ap,args,cp⟩,q,h⟩:=h
   cases rdMethN_inv q
   replace h:=any_inv h
   obtain ⟨y,q3,h⟩:=h
   obtain ⟨p3,rfl⟩:=rdName_inv q3
   simp only [Bool.and_eq_true,decide_eq_true_eq] at h
   obtain ⟨⟨⟨⟨⟨⟨⟨⟨rfl,rfl⟩,h1⟩,h2⟩,h3⟩,h4⟩,h5⟩,h6⟩,h7⟩:=h
   cases args with
   |nil=>cases h6
   |cons a as=>exact se_callC G h3 h1 (nmB_ok h2).1 rfl (chkEs_ok es G h7).1 (chkEs_star h7) h5 h4
 | .clr a, N, sc, e, X, G, h => by
   simp only [chkE] at h
   replace h:=any_inv h
   obtain ⟨⟨oe,m',ap,args,cp⟩,q,h⟩:=h
   cases rdMethN_inv q
   simp only [Bool.and_eq_true,List.isEmpty_iff] at h
   obtain ⟨⟨⟨⟨h0,h1⟩,h2⟩,rfl⟩,h4⟩:=h
   cases str_eq h0
   exact se_clr (chkE_ok a G h4) h1 h2
 | .call f j es, N, sc, e, X, G, h => by
   simp only [chkE] at h
   replace h:=any_inv h
   obtain ⟨⟨x,args⟩,q,h⟩:=h
   obtain ⟨p2,p,rfl⟩:=rdCallN_inv q
   simp only [Bool.and_eq_true,Bool.or_eq_true] at h
   obtain ⟨⟨⟨⟨h1,h2⟩,h3⟩,h4⟩,h5⟩:=h
   obtain ⟨n1,n2,n3⟩:=nmB_ok h2
   obtain ⟨ps,nd,hf,hj⟩:=fn_of' h3
   have ha:=(chkEs_ok es G h5).1
   cases args with
   | nil =>
     have:es=.nil:=by
      cases es with
      |nil=>rfl
      |cons _ _=>rcases h4 with z|z<;>cases z
     rw [this]
     exact se_call0 G hf hj h1 n1
   |cons a as=>exact se_call G hf hj h1 n1 ha (chkEs_star h5)
 | .bi b es, N, sc, e, X, G, h => by
   simp only [chkE] at h
   replace h:=any_inv h
   obtain ⟨⟨x,args⟩,q,h⟩:=h
   obtain ⟨p2,p,rfl⟩:=rdCallN_inv q
   rw [Bool.and_eq_true,Bool.and_eq_true] at h
   obtain ⟨⟨h1,h2⟩,h3⟩:=h
   obtain ⟨n1,n2,n3⟩:=nmB_ok h2
   split at h3
   · rename_i t qt
     replace h3:=any_inv h3
     obtain ⟨⟨e1,e2⟩,q2,h3⟩:=h3
     cases two_inv q2
     replace h3:=any_inv h3
     obtain ⟨y,q3,h3⟩:=h3
     obtain ⟨p3,rfl⟩:=rdName_inv q3
     simp only [Bool.and_eq_true] at h3
     obtain ⟨⟨⟨⟨⟨hx,h4⟩,h5⟩,h6⟩,h7⟩,h8⟩:=h3
     cases str_eq hx
     obtain ⟨m1,m2,m3⟩:=nmB_ok h6
     obtain ⟨t1,t2⟩:=tyB_ok h4
     obtain ⟨a,ea⟩:=chkE_one h7
     have he:=(chkEs_ok es G h8).2 a .nil e1 [] ea rfl
     have hst:=chkEs_star h8
     have eb:b=.isin t:=by
      cases b with
      |isin _=>cases qt;rfl
      |_=>cases qt
     rw [ea,eb]
     exact se_isin G (blt_of G h1) (blt_of G h5) t2 t1 m3 m1 he (by simpa using hst)
   · rw [Bool.and_eq_true,Bool.and_eq_true] at h3
     cases args with
     |nil=>cases h3.1.2
     | cons a as =>
       obtain ⟨id,hc,hv⟩:=call_bi_ok G h3.1.1
       exact se_bi hc (blt_of G h1) hv (chkEs_ok es G h3.2).1 (chkEs_star h3.2) n3 n1
 | .mt m o es, N, sc, e, X, G, h => by
   simp only [chkE] at h
   replace h:=any_inv h
   obtain ⟨⟨oe,x,ap,e1,cp⟩,q,h⟩:=h
   cases rdMeth_inv q
   simp only [Bool.and_eq_true] at h
   obtain ⟨⟨⟨⟨⟨h1,h2⟩,h3⟩,h4⟩,h5⟩,h6⟩:=h
   obtain ⟨a,ea⟩:=chkE_one h4
   have he:=(chkEs_ok es G h6).2 a .nil e1 [] ea rfl
   have hst:noStar e1=true:=by simpa using chkEs_star h6
   rw [ea]
   cases m with
   | append =>
     cases str_eq h1
     exact se_mt PySem.F.slot_list_append PySem.F.type_list_append append_ok (chkE_ok o G h5) he hst h2 h3
   | popAt =>
     cases str_eq h1
     exact se_mt PySem.F.slot_list_pop PySem.F.type_list_pop popAt_ok (chkE_ok o G h5) he hst h2 h3
   | count =>
     cases str_eq h1
     exact se_mt PySem.F.slot_list_count PySem.F.type_list_count count_ok (chkE_ok o G h5) he hst h2 h3
 | .mkL l, N, sc, e, X, G, h => by
   simp only [chkE] at h
   split at h
   · rename_i c
     split at h
     · have ht:isTmp l=true:=by
        cases l with
        |comp=>rfl
        |_=>cases c
       exact PE.imp ((chkL_ok l G h).2.1 ht) fun σ H Qv q=>mkC_imp q
     · replace h:=any_inv h
       obtain ⟨⟨x,e1⟩,q,h⟩:=h
       obtain ⟨p2,p,rfl⟩:=rdCall1_inv q
       simp only [Bool.and_eq_true] at h
       obtain ⟨⟨⟨hx,h1⟩,h2⟩,h4⟩:=h
       cases str_eq hx
       have hr:isRng l=false:=by
        cases l with
        |comp=>rfl
        |_=>cases c
       exact se_mkL G (blt_of G h1) ((chkL_ok l G h4).1 hr) h2
   · replace h:=any_inv h
     obtain ⟨⟨x,e1⟩,q,h⟩:=h
     obtain ⟨p2,p,rfl⟩:=rdCall1_inv q
     simp only [Bool.and_eq_true,Bool.or_eq_true,Bool.not_eq_true'] at h
     obtain ⟨⟨⟨⟨hx,h1⟩,h2⟩,h3⟩,h4⟩:=h
     cases str_eq hx
     have hl:=chkL_ok l G h4
     rcases h3 with h3|h3
     · exact se_mkL G (blt_of G h1) (hl.1 h3) h2
     · have:∃a,l=.rng1 a:=by
        cases l with
        |rng1 a=>exact ⟨a,rfl⟩
        |_=>cases h3
       obtain ⟨a,ea⟩:=this
       obtain ⟨a',p3,p4,rfl,hr,ha,hs⟩:=hl.2.2.2 a ea
       rw [ea]
       exact se_mkR1 G (blt_of G h1) hr ha hs
 | .all l, N, sc, e, X, G, h => by
   simp only [chkE] at h
   replace h:=any_inv h
   obtain ⟨⟨x,e1⟩,q,h⟩:=h
   obtain ⟨p2,p,rfl⟩:=rdCall1_inv q
   simp only [Bool.and_eq_true,Bool.not_eq_true'] at h
   obtain ⟨⟨⟨⟨hx,h1⟩,h2⟩,h3⟩,h4⟩:=h
   cases str_eq hx
   exact se_all G (blt_of G h1) ((chkL_ok l G h4).1 h3) h2
theorem chkEs_ok:∀(ces:CEs) {N:List Str} {sc:Scope} {es:List Expr} {X:Cx},Gd T cf k N sc X->chkEs T ces N sc es=true->EsOk cf ces X es
 | .nil, N, sc, es, X, G, h => by
   simp only [chkEs,List.isEmpty_iff] at h
   subst h
   exact ⟨sa_nil,fun a r e es' z=>nomatch z⟩
 | .cons a r, N, sc, es, X, G, h => by
   cases es with
   |nil=>simp [chkEs] at h
   | cons e es =>
     simp only [chkEs,Bool.and_eq_true] at h
     have he:=chkE_ok a G h.1.2
     exact ⟨sa_cons he (chkEs_ok r G h.2).1 h.1.1,fun a' r' e' es' z1 z2=>by cases z1;cases z2;exact he⟩
theorem chkT_ok:∀(ce:CE) {N:List Str} {sc:Scope} {e:Expr} {X:Cx},Gd T cf k N sc X->chkT T ce N sc e=true->PT X e (tT X.K cf ce)/\((∃op v r p,e=.BoolOp op (v::r) p)->PW X e (tT X.K cf ce))
 | .cmp op a b, N, sc, e, X, G, h => by
   simp only [chkT] at h
   replace h:=any_inv h
   obtain ⟨⟨l,os,rs⟩,q,h⟩:=h
   obtain ⟨p,rfl⟩:=rdCmp_inv q
   rw [Bool.and_eq_true,decide_eq_true_eq] at h
   obtain ⟨e1,h⟩:=h
   replace h:=any_inv h
   obtain ⟨r,q2,h⟩:=h
   cases one_inv q2
   cases e1
   simp only [Bool.and_eq_true] at h
   exact ⟨st_cmp G (chkE_ok a G h.1.2) (chkE_ok b G h.2) h.1.1,fun ⟨_,_,_,_,z⟩=>nomatch z⟩
 | .nt a, N, sc, e, X, G, h => by
   simp only [chkT] at h
   replace h:=any_inv h
   obtain ⟨⟨o,x⟩,q,h⟩:=h
   obtain ⟨p,rfl⟩:=rdUn_inv q
   simp only [Bool.and_eq_true,decide_eq_true_eq] at h
   obtain ⟨rfl,h1⟩:=h
   exact ⟨st_nt (chkT_ok a G h1).1,fun ⟨_,_,_,_,z⟩=>nomatch z⟩
 | .and a b, N, sc, e, X, G, h => by
   simp only [chkT] at h
   replace h:=any_inv h
   obtain ⟨⟨o,vs,p⟩,q,h⟩:=h
   cases rdBool_inv q
   rw [Bool.and_eq_true,decide_eq_true_eq] at h
   obtain ⟨e1,h⟩:=h
   cases e1
   dsimp only at h
   split at h
   · rename_i x y rest
     rw [Bool.and_eq_true] at h
     obtain ⟨h1,h2⟩:=h
     split at h2
     · rename_i c
       cases List.isEmpty_iff.mp c
       have w:=st_and (pos:=p) (chkT_ok a G h1).1 (pw_and1 (chkT_ok b G h2).1)
       exact ⟨w.pt,fun _=>w⟩
     · have w:=st_and (chkT_ok a G h1).1 ((chkT_ok b G h2).2 ⟨_,_,_,_,rfl⟩)
       exact ⟨w.pt,fun _=>w⟩
   · cases h
 | .or a b, N, sc, e, X, G, h => by
   simp only [chkT] at h
   replace h:=any_inv h
   obtain ⟨⟨o,vs,p⟩,q,h⟩:=h
   cases rdBool_inv q
   rw [Bool.and_eq_true,decide_eq_true_eq] at h
   obtain ⟨e1,h⟩:=h
   cases e1
   dsimp only at h
   split at h
   · rename_i x y rest
     rw [Bool.and_eq_true] at h
     obtain ⟨h1,h2⟩:=h
     split at h2
     · rename_i c
       cases List.isEmpty_iff.mp c
       have w:=st_or (pos:=p) (chkT_ok a G h1).1 (pw_or1 (chkT_ok b G h2).1)
       exact ⟨w.pt,fun _=>w⟩
     · have w:=st_or (chkT_ok a G h1).1 ((chkT_ok b G h2).2 ⟨_,_,_,_,rfl⟩)
       exact ⟨w.pt,fun _=>w⟩
   · cases h
 | .tst a, N, sc, e, X, G, h => by
   simp only [chkT,Bool.and_eq_true] at h
   exact ⟨st_tst (chkE_ok a G h.2) h.1,fun ⟨_,_,_,_,z⟩=>by rw [z] at h;simp [plainT] at h⟩
 |.loc i,N,sc,e,X,G,h=>absurd h Bool.false_ne_true
 |.con d,N,sc,e,X,G,h=>absurd h Bool.false_ne_true
 |.bin op a b,N,sc,e,X,G,h=>absurd h Bool.false_ne_true
 |.neg a,N,sc,e,X,G,h=>absurd h Bool.false_ne_true
 |.ite c a b,N,sc,e,X,G,h=>absurd h Bool.false_ne_true
 |.tup es,N,sc,e,X,G,h=>absurd h Bool.false_ne_true
 |.lst es,N,sc,e,X,G,h=>absurd h Bool.false_ne_true
 |.dnew,N,sc,e,X,G,h=>absurd h Bool.false_ne_true
 |.dnewT,N,sc,e,X,G,h=>absurd h Bool.false_ne_true
 |.ix a b,N,sc,e,X,G,h=>absurd h Bool.false_ne_true
 |.fld a f,N,sc,e,X,G,h=>absurd h Bool.false_ne_true
 |.mk c f x es,N,sc,e,X,G,h=>absurd h Bool.false_ne_true
 |.meth m tb o es,N,sc,e,X,G,h=>absurd h Bool.false_ne_true
 |.isc cs x a,N,sc,e,X,G,h=>absurd h Bool.false_ne_true
 |.callC f x m es,N,sc,e,X,G,h=>absurd h Bool.false_ne_true
 |.clr a,N,sc,e,X,G,h=>absurd h Bool.false_ne_true
 |.call f j es,N,sc,e,X,G,h=>absurd h Bool.false_ne_true
 |.bi b es,N,sc,e,X,G,h=>absurd h Bool.false_ne_true
 |.mt m o es,N,sc,e,X,G,h=>absurd h Bool.false_ne_true
 |.mkL l,N,sc,e,X,G,h=>absurd h Bool.false_ne_true
 |.all l,N,sc,e,X,G,h=>absurd h Bool.false_ne_true
theorem chkL_ok:∀(cl:CL) {N:List Str} {sc:Scope} {e:Expr} {X:Cx},Gd T cf k N sc X->chkL T cl N sc e=true->LOk T cf k cl X e
 | .val a, N, sc, e, X, G, h => by
   simp only [chkL,Bool.and_eq_true] at h
   have hp:=sl_val (chkE_ok a G h.2)
   exact ⟨fun _=>hp,fun z=>(by cases z),fun tg _=>si_seq hp lk_val,fun a z=>nomatch z⟩
 | .rng1 a, N, sc, e, X, G, h => by
   simp only [chkL] at h
   replace h:=any_inv h
   obtain ⟨⟨x,e1⟩,q,h⟩:=h
   obtain ⟨p2,p,rfl⟩:=rdCall1_inv q
   simp only [Bool.and_eq_true] at h
   obtain ⟨⟨⟨hx,h1⟩,h2⟩,h3⟩:=h
   cases str_eq hx
   have he:=chkE_ok a G h3
   exact ⟨fun z=>(by cases z),fun z=>(by cases z),fun tg _=>si_rng1 (blt_of G h1) he h2,fun a z=>by cases z;exact ⟨e1,p2,p,rfl,blt_of G h1,he,h2⟩⟩
 | .rng2 a b, N, sc, e, X, G, h => by
   simp only [chkL] at h
   replace h:=any_inv h
   obtain ⟨⟨x,args⟩,q,h⟩:=h
   obtain ⟨p2,p,rfl⟩:=rdCallN_inv q
   replace h:=any_inv h
   obtain ⟨⟨e1,e2⟩,q2,h⟩:=h
   cases two_inv q2
   simp only [Bool.and_eq_true] at h
   obtain ⟨⟨⟨⟨⟨hx,h1⟩,h2⟩,h3⟩,h4⟩,h5⟩:=h
   cases str_eq hx
   exact ⟨fun z=>(by cases z),fun z=>(by cases z),fun tg _=>si_rng2 (blt_of G h1) (chkE_ok a G h4) (chkE_ok b G h5) h2 h3,fun a z=>nomatch z⟩
 | .zip a b, N, sc, e, X, G, h => by
   simp only [chkL] at h
   replace h:=any_inv h
   obtain ⟨⟨x,args⟩,q,h⟩:=h
   obtain ⟨p2,p,rfl⟩:=rdCallN_inv q
   replace h:=any_inv h
   obtain ⟨⟨e1,e2⟩,q2,h⟩:=h
   cases two_inv q2
   simp only [Bool.and_eq_true] at h
   obtain ⟨⟨⟨⟨⟨hx,h1⟩,h2⟩,h3⟩,h4⟩,h5⟩:=h
   cases str_eq hx
   refine ⟨fun z=>(by cases z),fun z=>(by cases z),fun tg ht=>?_,fun a z=>nomatch z⟩
   cases tg with
   |Tuple es j pt=>exact si_zip (blt_of G h1) (chkE_ok a G h4) (chkE_ok b G h5) h2 h3
   |_=>cases ht
 | .comp nt js g it c e, N, sc, ex, X, G, h => by
   simp only [chkL] at h
   replace h:=any_inv h
   obtain ⟨⟨elt,gs,scope,p⟩,q,h⟩:=h
   cases rdLC_inv q
   replace h:=any_inv h
   obtain ⟨⟨tg,iter,ifs,asy⟩,q2,h⟩:=h
   cases one_inv q2
   rw [Bool.and_eq_true,Bool.and_eq_true,Bool.and_eq_true,Bool.and_eq_true,Bool.and_eq_true,Bool.and_eq_true,Bool.and_eq_true,Bool.and_eq_true,decide_eq_true_eq,decide_eq_true_eq,decide_eq_true_eq] at h
   obtain ⟨⟨⟨⟨⟨⟨⟨⟨h1,h2⟩,h3⟩,h4⟩,h5⟩,h6⟩,h7⟩,h8⟩,h9⟩:=h
   dsimp only at h1 h2 h3 h4 h5 h6 h7 h8 h9
   rw [Bool.and_eq_true] at h3
   subst h1 h5
   have ok:=compB_ok G h2
   have G':=gd_comp G (tgs:=tgsOf tg) ok h6
   have ht:∀cl C fp s H pn,PTs (cxComp X (capN X.N (tgsOf tg) js) scope cl C fp s H pn) ifs (tT X.K cf c):=fun cl C fp s H pn=>by
    split at h8
    · rename_i ce
      cases List.isEmpty_iff.mp ce
      exact trueT_ok (X:=cxComp X (capN X.N (tgsOf tg) js) scope cl C fp s H pn) h8
    · replace h8:=any_inv h8
      obtain ⟨t,q3,h8⟩:=h8
      cases one_inv q3
      exact pts_one (chkT_ok c (G' cl C fp s H pn) h8).1
   have hp:PE X (.ListComp elt [⟨tg,iter,ifs,0⟩] scope p) (tLt X.K cf (.comp (tgsOf tg).length js g it c e)):=
    PE.imp (pe_lcomp X.env.scope (tgsOf tg) js G.calm rfl ok ((chkL_ok it G h4).2.2.1 tg h3.2) (fun cl C fp s H pn=>tg_ok (G' cl C fp s H pn) h7) ht (fun cl C fp s H pn=>chkE_ok e (G' cl C fp s H pn) h9) (fold_of h3.1 X.env)) fun σ H Qv q=>comp_imp G.tab.frm q
   exact ⟨fun _=>(PE.ofT hp),fun _=>hp,fun tg _=>si_seq (PE.ofT hp) lk_comp,fun a z=>nomatch z⟩
end
end
end R
end
section
set_option maxHeartbeats 4000000
namespace R
open PySem PySem.Spec PyProof.Rows L2
variable [Mks]
section
variable {T:Tab} {cf:CF} {k:Nat}
theorem ss_comp {N:List Str} {sc:Scope} {X:Cx} {rest:List Stmt} {p pos p2:Pos} (G:Gd T cf k N sc X) {i:Nat} {x:Str} {l:CL} {elt:Expr} {gs:List Comprehension} {scope:Scope} {r:CS} (hi:N[i]?=some x) (hl:isLoc sc x=true) (h:chkE T (.mkL l) N sc (.ListComp elt gs scope p2)=true) (hr:PSs X rest (tS X.K cf r)) :
  PSs X (.Assign [.Name x p] (.ListComp elt gs scope p2) pos::rest) (tS X.K cf (.asg i (.mkL l) r)):=by
 have hw:∃b,swapsWith (.ListComp elt gs scope p2) (some (.Name x p)) pos.line X.env=pure b:=⟨_,rfl⟩
 obtain ⟨b,hw⟩:=hw
 cases b with
 | false =>
   refine PSs.imp (pss_cons (ps_set (i:=i) (by rw [G.nm];exact G.nd) (by rw [G.nm];exact hi) (G.lc hl).1 (chkE_ok (.mkL l) G h) hw (G.lc hl).2) hr) fun E σ H ⟨δ,ι,S,Q,hs,hh,w,lf⟩=>?_
   simp only [exS,W_bind] at w
   refine tE.run hs hh w fun d v ι1 H1 S1 x1 hs1 hh1 r1 w1=>?_
   exact ⟨δ.set i (some d),ι1,S1,Q,hs1.set r1 i,hh1,w1,lf.up x1⟩
 | true =>
   simp only [chkE] at h
   split at h
   · rename_i c0
     split at h
     · cases l with
       | comp nt js g it c e =>
         simp only [chkL] at h
         replace h:=any_inv h
         obtain ⟨⟨elt',gs',scope',p'⟩,q,h⟩:=h
         cases rdLC_inv q
         replace h:=any_inv h
         obtain ⟨⟨tg,iter,ifs,asy⟩,q2,h⟩:=h
         cases one_inv q2
         rw [Bool.and_eq_true,Bool.and_eq_true,Bool.and_eq_true,Bool.and_eq_true,Bool.and_eq_true,Bool.and_eq_true,Bool.and_eq_true,Bool.and_eq_true,decide_eq_true_eq,decide_eq_true_eq,decide_eq_true_eq] at h
         obtain ⟨⟨⟨⟨⟨⟨⟨⟨h1,h2⟩,h3⟩,h4⟩,h5⟩,h6⟩,h7⟩,h8⟩,h9⟩:=h
         dsimp only at h1 h2 h3 h4 h5 h6 h7 h8 h9
         rw [Bool.and_eq_true] at h3
         subst h1 h5
         have ok:=compB_ok G h2
         have G':=gd_comp G (tgs:=tgsOf tg) ok h6
         have ht:∀cl C fp s H pn,PTs (cxComp X (capN X.N (tgsOf tg) js) scope cl C fp s H pn) ifs (tT X.K cf c):=fun cl C fp s H pn=>by
          split at h8
          · rename_i ce
            cases List.isEmpty_iff.mp ce
            exact trueT_ok (X:=cxComp X (capN X.N (tgsOf tg) js) scope cl C fp s H pn) h8
          · replace h8:=any_inv h8
            obtain ⟨t,q3,h8⟩:=h8
            cases one_inv q3
            exact pts_one (chkT_ok c (G' cl C fp s H pn) h8).1
         have he:∀cl C fp s H pn,PE (cxComp X (capN X.N (tgsOf tg) js) scope cl C fp s H pn) elt (tE X.K cf e):=fun cl C fp s H pn=>chkE_ok e (G' cl C fp s H pn) h9
         have hg:∀cl C fp s H pn,PG (cxComp X (capN X.N (tgsOf tg) js) scope cl C fp s H pn) tg (tG X.K g):=fun cl C fp s H pn=>tg_ok (G' cl C fp s H pn) h7
         have hps:=ps_setC (spos:=pos) (py:=p) (pos:=p2) X.env.scope (tgsOf tg) js (i:=i) (y:=x) (by rw [G.nm];exact G.nd) (by rw [G.nm];exact hi) (G.lc hl).1 G.calm rfl ok ((chkL_ok it G h4).2.2.1 tg h3.2) hg ht he hw (fold_of h3.1 X.env) (G.lc hl).2
         exact ss_asgC G hi ⟨_,hps,fun σ H Qv q=>comp_imp G.tab.frm (mkC_imp q)⟩ hr
       |_=>cases c0
     · cases h
   · cases h
theorem comp_is {v:Expr} (h:notComp v=false) {e:CE} {N:List Str} {sc:Scope} (hc:chkE T e N sc v=true):∃l elt gs scope p,v=.ListComp elt gs scope p/\e=.mkL l:=by
 cases v with
 | ListComp elt gs scope p =>
   cases e with
   |mkL l=>exact ⟨l,elt,gs,scope,p,rfl,rfl⟩
   |_=>simp [chkE,rdName,rdConst,rdBin,rdUn,rdCmp,rdBool,rdIf,rdTup,rdList,rdDict0,rdSub,rdCallN,rdCall1,rdCall,rdMeth,rdMethN,rdAttr] at hc
 |SetComp=>cases e<;>simp [chkE,rdName,rdConst,rdBin,rdUn,rdCmp,rdBool,rdIf,rdTup,rdList,rdDict0,rdSub,rdCallN,rdCall1,rdCall,rdMeth,rdMethN,rdAttr,rdLC,chkL] at hc
 |DictComp=>cases e<;>simp [chkE,rdName,rdConst,rdBin,rdUn,rdCmp,rdBool,rdIf,rdTup,rdList,rdDict0,rdSub,rdCallN,rdCall1,rdCall,rdMeth,rdMethN,rdAttr,rdLC,chkL] at hc
 |_=>cases h
theorem chkS_ok:∀(cs:CS) {N:List Str} {sc:Scope} {st:List Stmt} {X:Cx},Gd T cf k N sc X->chkS T cs N sc st=true->PSs X st (tS X.K cf cs)
 | .nil, N, sc, st, X, G, h => by
   simp only [chkS,List.isEmpty_iff] at h
   subst h
   exact ss_nil
 | .asg i e r, N, sc, st, X, G, h => by
   cases st with
   |nil=>simp [chkS] at h
   | cons s rest =>
     simp only [chkS] at h
     replace h:=any_inv h
     obtain ⟨⟨tg,v,pos⟩,q,h⟩:=h
     cases rdAsg_inv q
     replace h:=any_inv h
     obtain ⟨x,q2,h⟩:=h
     obtain ⟨p,hx⟩:=rdName_inv q2
     dsimp only at hx
     subst hx
     simp only [Bool.and_eq_true,beq_iff_eq] at h
     obtain ⟨⟨⟨h1,h2⟩,h3⟩,h4⟩:=h
     have hr:=chkS_ok r G h4
     cases hn:notComp v with
     |true=>exact ss_asg G h1 h2 (chkE_ok e G h3) hn hr
     | false =>
       obtain ⟨l,elt,gs,scope,p2,rfl,rfl⟩:=comp_is hn h3
       exact ss_comp G h1 h2 h3 hr
 | .asgT g e r, N, sc, st, X, G, h => by
   cases st with
   |nil=>simp [chkS] at h
   | cons s rest =>
     simp only [chkS] at h
     replace h:=any_inv h
     obtain ⟨⟨tg,v,pos⟩,q,h⟩:=h
     cases rdAsg_inv q
     replace h:=any_inv h
     obtain ⟨es,q2,h⟩:=h
     obtain ⟨j,p,hx⟩:=rdTup_inv q2
     dsimp only at hx
     subst hx
     simp only [Bool.and_eq_true,decide_eq_true_eq] at h
     obtain ⟨⟨⟨⟨h1,h2⟩,h3⟩,h4⟩,h5⟩:=h
     obtain ⟨x,hx⟩:=Option.isSome_iff_exists.mp h1
     obtain ⟨p2,hv⟩:=rdName_inv hx
     exact ss_asgT G h3 h2 (chkE_ok e G h4) ⟨x,p2,hv⟩ (chkS_ok r G h5)
 | .setF a f e r, N, sc, st, X, G, h => by
   cases st with
   |nil=>simp [chkS] at h
   | cons s rest =>
     simp only [chkS] at h
     replace h:=any_inv h
     obtain ⟨⟨tg,v,pos⟩,q,h⟩:=h
     cases rdAsg_inv q
     replace h:=any_inv h
     obtain ⟨⟨o,f',p⟩,q2,h⟩:=h
     have hx:=rdAttr_inv q2
     dsimp only at hx
     subst hx
     simp only [Bool.and_eq_true,decide_eq_true_eq] at h
     obtain ⟨⟨⟨⟨⟨h1,h2⟩,h3⟩,h4⟩,h5⟩,h6⟩:=h
     subst h1
     exact ss_setF G h2 (chkE_ok a G h4) (chkE_ok e G h5) h3 (chkS_ok r G h6)
 | .retN r, N, sc, st, X, G, h => by
   cases st with
   |nil=>simp [chkS] at h
   | cons s rest =>
     simp only [chkS,Bool.and_eq_true] at h
     obtain ⟨p,rfl⟩:=rdRetN_inv h.1
     exact ss_retN (chkS_ok r G h.2)
 | .ifS c t u r, N, sc, st, X, G, h => by
   cases st with
   |nil=>simp [chkS] at h
   | cons s rest =>
     simp only [chkS] at h
     replace h:=any_inv h
     obtain ⟨⟨e,a,b⟩,q,h⟩:=h
     obtain ⟨p,rfl⟩:=rdIfS_inv q
     simp only [Bool.and_eq_true] at h
     exact ss_if (chkT_ok c G h.1.1.1).1 (chkS_ok t G h.1.1.2) (chkS_ok u G h.1.2) (chkS_ok r G h.2)
 | .forS g l b r, N, sc, st, X, G, h => by
   cases st with
   |nil=>simp [chkS] at h
   | cons s rest =>
     simp only [chkS] at h
     replace h:=any_inv h
     obtain ⟨⟨tg,it,body⟩,q,h⟩:=h
     obtain ⟨p,rfl⟩:=rdFor_inv q
     simp only [Bool.and_eq_true] at h
     obtain ⟨⟨⟨⟨h1,h2⟩,h3⟩,h4⟩,h5⟩:=h
     exact ss_for G ((chkL_ok l G h2).2.2.1 tg h5.2) (tg_ok G h5.1) (chkS_ok b G h3) h1 (chkS_ok r G h4)
 | .ret e r, N, sc, st, X, G, h => by
   cases st with
   |nil=>simp [chkS] at h
   | cons s rest =>
     simp only [chkS] at h
     replace h:=any_inv h
     obtain ⟨v,q,h⟩:=h
     obtain ⟨p,rfl⟩:=rdRet_inv q
     simp only [Bool.and_eq_true] at h
     exact ss_ret (chkE_ok e G h.1) (chkS_ok r G h.2)
 | .expr e r, N, sc, st, X, G, h => by
   cases st with
   |nil=>simp [chkS] at h
   | cons s rest =>
     simp only [chkS] at h
     replace h:=any_inv h
     obtain ⟨v,q,h⟩:=h
     obtain ⟨p,rfl⟩:=rdExp_inv q
     simp only [Bool.and_eq_true] at h
     exact ss_expr (chkE_ok e G h.1.2) h.1.1 (chkS_ok r G h.2)
theorem RS.start {K:PySem.W.Frag} {ι:List Addr} {H:Hp} {F:Fn} {N:List Str} {ds:List D} {vs:List V} (r:RVs K ι H ds vs) (hl:ds.length=F.np) (hn:F.nn=N.length):RS K ι H (startE F ds) (L2.start N vs):=by
 have hlen:=r.length
 refine ⟨by simp [startE,L2.start,hlen,hl,hn],fun i d e=>?_⟩
 unfold startE at e
 unfold L2.start
 by_cases hi:i<ds.length
 · rw [List.getElem?_append_left (by simpa using hi),List.getElem?_map] at e
   rw [List.getElem?_append_left (by simpa [hlen] using hi),List.getElem?_map]
   cases z:ds[i]? with
   |none=>rw [z] at e;cases e
   | some d' =>
     rw [z] at e
     simp only [Option.map_some,Option.some.injEq] at e
     subst e
     obtain ⟨v,ev,rv⟩:=r.get z
     exact ⟨v,by rw [ev];rfl,rv⟩
 · rw [List.getElem?_append_right (by simpa using hi),List.getElem?_replicate] at e
   split at e<;>cases e
structure DefOk (K:PySem.W.Frag) (mg:Str->Option Value) (T:Tab) (Pg:List Fn) (fi:Nat) (x:Str) (ps:List Str) (nd:Nat):Prop where
 ex:∃(F:Fn) (qual:Str) (st:Stmt) (dV:Value) (f:Addr) (fd:FuncData) (N:List Str),Pg[fi]?=some F/\F.prim=none/\FunV K x qual st dV f fd/\FnScope N ps (defScope st)/\chkS T F.body N (defScope st) (defBody st)=true/\F.np=ps.length/\F.nn=N.length/\
  mg x=some (.ref f)/\∀j,j<=nd->Binds K fd ps (List.replicate j Value.none)
theorem prm_frm {S:R.St} {p:Prim} {ds:List D} {d:D} {T':R.St} (h:prm S p ds=.ok d T'):Frm S T':=by
 unfold prm at h
 split at h
 · split at h
   · split at h
     · split at h
       · injection h with _ h2;rw [<-h2];exact Frm.push _ _
       · cases h
     · cases h
   · cases h
 · cases h
theorem frm_callF (Pg:List Fn):∀n:Nat,CFok (callF Pg n)
 |0,f,ds,S,d,T',h=>by cases h
 | n + 1, f, ds, S, d, T', h => by
   simp only [callF] at h
   cases e:Pg[f]? with
   |none=>rw [e] at h;cases h
   | some F =>
     rw [e] at h
     dsimp only at h
     split at h
     · cases ep:F.prim with
       | some p =>
         rw [ep] at h
         dsimp only at h
         split at h
         · exact prm_frm h
         · cases h
       |none=>
       rw [ep] at h
       dsimp only at h
       cases ex:exS (callF Pg n) F.body (startE F ds) S with
       | ok r T2 =>
         rw [ex] at h
         have hf:=exS_F (cf:=callF Pg n) (frm_callF Pg n) F.body (startE F ds) S (fun r' T3=>r'=r/\T3=T2) (by rw [ex];exact ⟨rfl,rfl⟩)
         rw [ex] at hf
         cases r with
         |nx δ=>injection h with _ h2;rw [<-h2];exact hf.2
         |rt z=>injection h with _ h2;rw [<-h2];exact hf.2
       |err z T2=>rw [ex] at h;cases h
       |bad=>rw [ex] at h;cases h
     · cases h
variable {P:Program} {w:World} {K:PySem.W.Frag} {mg:Str->Option Value} {base:Heap} {Pg:List Fn}
theorem Vals.nons:∀j:Nat,Vals (List.replicate j .non) (List.replicate j Value.none)
 |0=>.nil
 |j+1=>.cons rfl (Vals.nons j)
theorem spF_len {n fi:Nat} {F:Fn} {ps:List Str} (hP:Pg[fi]?=some F) (hp:F.np=ps.length) {vs:List V} {H:Hp} {Q:VK} {E:XK} (h:spF K (callF Pg n) fi vs H Q E):vs.length=ps.length:=by
 obtain ⟨ι,S,ds,r,hh,w⟩:=h
 rw [r.length]
 cases n with
 |zero=>exact w.elim
 | succ n =>
   simp only [callF,hP] at w
   split at w
   · rename_i c;rw [c,hp]
   · exact w.elim
theorem def_ok {n m fi:Nat} {x qual:Str} {st:Stmt} {dV:Value} {f:Addr} {fd:FuncData} {N ps:List Str} {F:Fn} (tab:TabOk T (callF Pg n) m P w K mg base) (FV:FunV K x qual st dV f fd) (hP:Pg[fi]?=some F) (S:FnScope N ps (defScope st)) (ck:chkS T F.body N (defScope st) (defBody st)=true) (hp:F.np=ps.length) (hn:F.nn=N.length) (hq:F.prim=none:=by rfl) :
  FnOk P w K mg base CX0 (m+2) f fd ps (spF K (callF Pg (n+1)) fi):=by
 refine FV.ok S (fun vs H Q E h=>spF_len hP hp h) fun cdv A outer s H vs Q E hr h=>?_
 obtain ⟨ι,S0,ds,r,hh,hw⟩:=h
 have G:Gd T (callF Pg n) m N (defScope st) (cxOf CX0 P w K mg base N qual (defScope st) f cdv A outer s H E).nox:=
  ⟨rfl,S.nd,fun x e=>e,fun x e=>e,fun x e=>.inl e,fun x e=>e,.inl fun _=>rfl,rfl,rfl,hr,tab⟩
 refine ⟨_,chkS_ok F.body G ck,?_⟩
 simp only [callF,hP,hq] at hw
 split at hw
 · rename_i c
   rw [W_bind] at hw
   refine ⟨startE F ds,ι,S0,_,RS.start r c hn,hh,hw,?_⟩
   intro fl ι' H' S' x' hh' q
   cases fl with
   |nx δ'=>exact fun σ' hs'=>q .non H' ι' x' rfl hh'
   |rt d=>exact fun v rv=>q v H' ι' x' rv hh'
 · exact hw.elim
structure MOk (K:PySem.W.Frag) (T:Tab) (Pg:List Fn) (fi:Nat) (Ex:Addr->Prop):Prop where
 ex:∃(F:Fn) (x qual:Str) (st:Stmt) (dV:Value) (f:Addr) (fd:FuncData) (N ps:List Str),Pg[fi]?=some F/\F.prim=none/\FunV K x qual st dV f fd/\FnScope N ps (defScope st)/\chkS T F.body N (defScope st) (defBody st)=true/\F.np=ps.length/\F.nn=N.length/\
  Binds K fd ps []/\Ex f
theorem mok_zero {fi:Nat} {Ex:Addr->Prop} (z:MOk K T Pg fi Ex):∃f fd ps,Ex f/\PySem.W.keepIn K (.ref f)=true/\Binds K fd ps []/\FnOk P w K mg base CX0 0 f fd ps (spF K (callF Pg 0) fi):=by
 obtain ⟨F,x,qual,st,dV,f,fd,N,ps,hP,hq,FV,S,ck,hp,hn,hb,e⟩:=z.ex
 refine ⟨f,fd,ps,e,FV.kp,hb,⟨fun vs H Q E h=>spF_len hP hp h,fun A outer s H args us vs Q E hr e0 b v h=>?_⟩⟩
 obtain ⟨ι,S,ds,r,hh,w⟩:=h
 exact w.elim
theorem mok_succ {n m fi:Nat} {Ex:Addr->Prop} (tab:TabOk T (callF Pg n) m P w K mg base) (z:MOk K T Pg fi Ex):∃f fd ps,Ex f/\PySem.W.keepIn K (.ref f)=true/\Binds K fd ps []/\FnOk P w K mg base CX0 (m+2) f fd ps (spF K (callF Pg (n+1)) fi):=by
 obtain ⟨F,x,qual,st,dV,f,fd,N,ps,hP,hq,FV,S,ck,hp,hn,hb,e⟩:=z.ex
 exact ⟨f,fd,ps,e,FV.kp,hb,def_ok tab FV hP S ck hp hn hq⟩
noncomputable def ExM (K:PySem.W.Frag) (c:Nat) (m:Str) (f:Addr):Prop:=∃C,Mks.cl[c]?=some C/\Cls K C/\Meth K C m f
noncomputable def ExI (K:PySem.W.Frag) (c:Nat) (f:Addr):Prop:=∃C,Mks.cl[c]?=some C/\Mk K C f
noncomputable def ExC (K:PySem.W.Frag) (mg:Str->Option Value) (x m:Str) (f:Addr):Prop:=∃(C:Addr) (mc:Value),mg x=some (.ref C)/\PySem.W.specialIn K (.ref C) "__getattribute__"=some (some (.builtin "type.__getattribute__"))/\PySem.W.readsIn K C mc=true/\PySem.W.findCls K (.ref C) mc m=some (.val (.ref f))
structure ClsOk (T:Tab) (K:PySem.W.Frag) (mg:Str->Option Value) (Pg:List Fn):Prop where
 cls:∀(c:Nat) (x:Str),T.cls[c]?=some x->∃C,Mks.cl[c]?=some C/\Cls K C/\mg x=some (.ref C)/\∀f,T.flds.contains f=true->NoAttr K C f
 mth:∀(c:Nat) (m:Str) (fi:Nat),T.mts.contains (c,m,fi)=true->MOk K T Pg fi (ExM K c m)
 ini:∀(c fi:Nat),T.inits.contains (c,fi)=true->MOk K T Pg fi (ExI K c)
 cmd:∀(x m:Str) (fi:Nat),T.cms.contains (x,m,fi)=true->MOk K T Pg fi (ExC K mg x m)
 cln:Mks.cl.length<=T.cls.length
 isa:∀(x:Str) (cs:List Nat),T.isas.contains (x,cs)=true->∃D,mg x=some (.ref D)/\∀c C,Mks.cl[c]?=some C->IsaOk K C/\PySem.W.kitOne K (.ref C) (.ref D)=some (cs.contains c)
theorem hasM_of {k c fi:Nat} {m:Str} (h:∃f fd ps,ExM K c m f/\PySem.W.keepIn K (.ref f)=true/\Binds K fd ps []/\FnOk P w K mg base CX0 k f fd ps (spF K cf fi)):HasM P w K mg base k c m (spF K cf fi):=by
 obtain ⟨f,fd,ps,⟨C,h1,h2,h3⟩,_,h4,h5⟩:=h
 exact ⟨C,f,fd,ps,h1,h2,h3,h5,h4⟩
theorem hasI_of {k c fi:Nat} (h:∃f fd ps,ExI K c f/\PySem.W.keepIn K (.ref f)=true/\Binds K fd ps []/\FnOk P w K mg base CX0 k f fd ps (spF K cf fi)):HasI P w K mg base k c (spF K cf fi):=by
 obtain ⟨f,fd,ps,⟨C,h1,h2⟩,_,h4,h5⟩:=h
 exact ⟨C,f,fd,ps,h1,h2,h5,h4⟩
theorem hasC_of {k fi:Nat} {x m:Str} (h:∃f fd ps,ExC K mg x m f/\PySem.W.keepIn K (.ref f)=true/\Binds K fd ps []/\FnOk P w K mg base CX0 k f fd ps (spF K cf fi)):HasC P w K mg base k x m (spF K cf fi):=by
 obtain ⟨f,fd,ps,⟨C,mc,h1,h2,h3,h6⟩,h7,h4,h5⟩:=h
 exact ⟨C,f,fd,ps,mc,h1,h2,h3,h6,h7,h5,h4⟩
structure PrimOk (P:Program) (w:World) (K:PySem.W.Frag) (mg:Str->Option Value) (base:Heap) (Pg:List Fn) (fi:Nat) (x:Str) (ps:List Str) (nd:Nat):Prop where
 ex:∃(F:Fn) (p:Prim) (f:Addr) (fd:FuncData),Pg[fi]?=some F/\F.prim=some p/\F.np=ps.length/\mg x=some (.ref f)/\PySem.W.keepIn K (.ref f)=true/\(∀j,j<=nd->Binds K fd ps (List.replicate j Value.none))/\
  ∀n,3<=n->FnOk P w K mg base CX0 (n+2) f fd ps (spF K (callF Pg (n+1)) fi)
theorem tab_ok (hb:∀x,T.blt.contains x=true->mg x=none) (hc:∀x d,T.cons.lookup x=some d->scalD d=true/\∃u,mg x=some u/\RelV (sV d) u) (hd:∀fi x ps nd,T.fns[fi]?=some (x,ps,nd)->DefOk K mg T Pg fi x ps nd\/PrimOk P w K mg base Pg fi x ps nd) (hk:ClsOk T K mg Pg) :
  ∀n,TabOk T (callF Pg n) (2 * n) P w K mg base:=by
 intro n
 induction n with
 | zero =>
   refine ⟨hb,hc,fun fi x ps nd hf j hj=>?_,frm_callF Pg 0,hk.cls,fun c m fi h=>hasM_of (mok_zero (hk.mth c m fi h)),fun c fi h=>hasI_of (mok_zero (hk.ini c fi h)),fun x m fi h=>hasC_of (mok_zero (hk.cmd x m fi h)),fun _=>hk.cln,hk.isa⟩
   rcases hd fi x ps nd hf with z|z
   · obtain ⟨F,qual,st,dV,f,fd,N,hP,hq,FV,S,ck,hp,hn,hm,hbd⟩:=z.ex
     refine ⟨f,fd,_,⟨fun vs H Q E h=>spF_len hP hp h,fun A outer s H args us vs Q E hr e0 b v h=>?_⟩,hm,FV.kp,hbd j hj,Vals.nons j⟩
     obtain ⟨ι,S,ds,r,hh,w⟩:=h
     exact w.elim
   · obtain ⟨F,p,f,fd,hP,hq,hp,hm,kp,hbd,ok⟩:=z.ex
     refine ⟨f,fd,_,⟨fun vs H Q E h=>spF_len hP hp h,fun A outer s H args us vs Q E hr e0 b v h=>?_⟩,hm,kp,hbd j hj,Vals.nons j⟩
     obtain ⟨ι,S,ds,r,hh,w⟩:=h
     exact w.elim
 | succ n ih =>
   refine ⟨hb,hc,fun fi x ps nd hf j hj=>?_,frm_callF Pg (n+1),hk.cls,fun c m fi h=>hasM_of (mok_succ ih (hk.mth c m fi h)),fun c fi h=>hasI_of (mok_succ ih (hk.ini c fi h)),fun x m fi h=>hasC_of (mok_succ ih (hk.cmd x m fi h)),fun _=>hk.cln,hk.isa⟩
   rcases hd fi x ps nd hf with z|z
   · obtain ⟨F,qual,st,dV,f,fd,N,hP,hq,FV,S,ck,hp,hn,hm,hbd⟩:=z.ex
     refine ⟨f,fd,_,?_,hm,FV.kp,hbd j hj,Vals.nons j⟩
     exact def_ok ih FV hP S ck hp hn hq
   · obtain ⟨F,p,f,fd,hP,hq,hp,hm,kp,hbd,ok⟩:=z.ex
     refine ⟨f,fd,_,?_,hm,kp,hbd j hj,Vals.nons j⟩
     by_cases c:3<=n
     · exact (ok n c).mono (by omega)
     · refine ⟨fun vs H Q E h=>spF_len hP hp h,fun A outer s H args us vs Q E hr e0 b v h=>?_⟩
       obtain ⟨ι,S,ds,r,hh,w⟩:=h
       simp only [callF,hP,hq,c,if_false] at w
       split at w<;>exact w.elim
noncomputable def AllAtG {α:Type} (P:Nat->α->Prop):Nat->List α->Prop
 |_,[]=>True
 |k,a::r=>P k a/\AllAtG P (k+1) r
theorem allAtG {α:Type} {P:Nat->α->Prop}:∀{l:List α} {k:Nat},AllAtG P k l->∀(i:Nat) (a:α),l[i]?=some a->P (k+i) a
 | [],_,_,i,a,h=>by simp at h
 |b::r,k,q,0,a,h=>by cases h;exact q.1
 | b :: r, k, q, i + 1, a, h => by
   have:=allAtG q.2 i a (by simpa using h)
   rwa [Nat.add_right_comm] at this
theorem AllAt.get {α:Type} {P:Nat->α->Prop} {l:List α} (q:AllAtG P 0 l) (i:Nat) (a:α) (h:l[i]?=some a):P i a:=Nat.zero_add i▸allAtG q i a h
noncomputable def AllInG {α:Type} (P:α->Prop):List α->Prop
 | []=>True
 |a::r=>P a/\AllInG P r
theorem AllIn.get {α:Type} [BEq α] [LawfulBEq α] {P:α->Prop}:∀{l:List α},AllInG P l->∀a,l.contains a=true->P a
 | [],_,a,h=>by simp at h
 | b :: r, q, a, h => by
   rw [List.contains_cons,Bool.or_eq_true] at h
   rcases h with h|h
   · rw [eq_of_beq h];exact q.1
   · exact AllIn.get q.2 a h
theorem law_spT {k fi:Nat} {K:PySem.W.Frag} {H:Hp} {a:Addr} {ns:List Int} (hx:FixL K H a (ns.map V.int)) (tb:TB H)
  (law:W (callF Pg k fi [.fix (ns.map .int)] ⟨[],[],[]⟩) fun d _=>d=.bl true):spF K (callF Pg k) fi [.ref a] H (fun v _=>v=.bl true) fun _ _ _=>False:=by
 refine ⟨[],⟨[],[],[]⟩,[.fix (ns.map .int)],⟨.ref a,[],rfl,⟨a,_,rfl,hx,RVs.ints ns⟩,rfl⟩,⟨rfl,List.nodup_nil,fun l o e=>(by simp [St.get] at e),tb⟩,?_⟩
 obtain ⟨d,T',e,q⟩:=W_ok' law
 rw [e]
 intro v H' ι' x r hT
 subst q
 exact r
end
end R
end
section
namespace R
open PySem PySem.W PyProof.Rows
section
variable {n:Nat} {r:Nat->Int} {cmp:Nat->Nat->(Bool->Shared->Prop)->Shared->Prop} {s:Shared}
noncomputable abbrev GP (n:Nat) (p:Array Nat):Prop:=p.Perm (List.range n).toArray
noncomputable def kAt (r:Nat->Int) (p:Array Nat) (i:Nat):Int:=r (p.getD i 0)
noncomputable def AscTo (r:Nat->Int) (p:Array Nat) (k:Nat):Prop:=∀i j,i<j->j<k->kAt r p i<kAt r p j
noncomputable def DescTo (r:Nat->Int) (p:Array Nat) (k:Nat):Prop:=∀i j,i<j->j<k->kAt r p j<kAt r p i
theorem GP.size {p:Array Nat} (h:GP n p):p.size=n:=by
 have:=h.size_eq
 simpa using this
theorem GP.list {p:Array Nat} (h:GP n p):p.toList.Perm (List.range n):=by
 have:=Array.perm_iff_toList_perm.mp h
 simpa using this
theorem getD_list (p:Array Nat) {i:Nat} (hi:i<p.size):p.getD i 0=p.toList[i]'(by simpa using hi):=by
 simp [Array.getD,hi]
theorem GP.lt {p:Array Nat} (h:GP n p) {i:Nat} (hi:i<n):p.getD i 0<n:=by
 have hs:=h.size
 rw [getD_list p (by omega)]
 exact List.mem_range.mp (h.list.mem_iff.mp (List.getElem_mem _))
theorem GP.inj {p:Array Nat} (h:GP n p) (hr:∀i j,i<n->j<n->r i=r j->i=j) {i j:Nat} (hi:i<n) (hj:j<n) (e:kAt r p i=kAt r p j):i=j:=by
 have e':=hr _ _ (h.lt hi) (h.lt hj) e
 have hs:=h.size
 rw [getD_list p (by omega),getD_list p (by omega)] at e'
 have nd:p.toList.Nodup:=h.list.nodup_iff.mpr List.nodup_range
 have pw:=List.pairwise_iff_getElem.mp nd
 rcases Nat.lt_trichotomy i j with z|z|z
 · exact absurd e' (pw i j _ _ z)
 · exact z
 · exact absurd e'.symm (pw j i _ _ z)
theorem GP.tri {p:Array Nat} (h:GP n p) (hr:∀i j,i<n->j<n->r i=r j->i=j) {i j:Nat} (hi:i<n) (hj:j<n) (ne:i≠j) (c:¬kAt r p i<kAt r p j):kAt r p j<kAt r p i:=by
 have:kAt r p i≠kAt r p j:=fun e=>ne (h.inj hr hi hj e)
 omega
theorem AscTo.snoc {p:Array Nat} {k:Nat} (h:AscTo r p k) (h1:1<=k) (c:kAt r p (k - 1)<kAt r p k):AscTo r p (k+1):=by
 intro i j hij hj
 by_cases e:j<k
 · exact h i j hij e
 · have:j=k:=by omega
   subst this
   by_cases e':i=j - 1
   · subst e';exact c
   · have:=h i (j - 1) (by omega) (by omega)
     omega
theorem DescTo.snoc {p:Array Nat} {k:Nat} (h:DescTo r p k) (h1:1<=k) (c:kAt r p k<kAt r p (k - 1)):DescTo r p (k+1):=by
 intro i j hij hj
 by_cases e:j<k
 · exact h i j hij e
 · have:j=k:=by omega
   subst this
   by_cases e':i=j - 1
   · subst e';exact c
   · have:=h i (j - 1) (by omega) (by omega)
     omega
variable (hr:∀i j,i<n->j<n->r i=r j->i=j) (hc:∀i j (C:Bool->Shared->Prop),i<n->j<n->C (decide (r i<r j)) s->cmp i j C s)
include hr hc
theorem asc_wp {p:Array Nat} (g:GP n p) {Q:Nat->Shared->Prop}:∀(f a:Nat),1<=a->a+f<=n->AscTo r p a->
  (∀m,a<=m->m<=a+f->AscTo r p m->(m=a+f\/kAt r p m<kAt r p (m - 1))->Q m s)->(kas_asc p f a).kasWp cmp Q s
 |0,a,_,_,h,q=>q a (Nat.le_refl _) (Nat.le_refl _) h (.inl rfl)
 | f + 1, a, h1, h2, h, q => by
   refine hc _ _ _ (g.lt (by omega)) (g.lt (by omega)) ?_
   by_cases c:kAt r p a<kAt r p (a - 1)
   · have e:decide (r (p.getD a 0)<r (p.getD (a - 1) 0))=true:=decide_eq_true c
     show (if decide (r (p.getD a 0)<r (p.getD (a - 1) 0))=true then KasT.ret a else kas_asc p f (a+1)).kasWp cmp Q s
     rw [if_pos e]
     exact q a (Nat.le_refl _) (by omega) h (.inr c)
   · have e:¬decide (r (p.getD a 0)<r (p.getD (a - 1) 0))=true:=fun z=>c (of_decide_eq_true z)
     show (if decide (r (p.getD a 0)<r (p.getD (a - 1) 0))=true then KasT.ret a else kas_asc p f (a+1)).kasWp cmp Q s
     rw [if_neg e]
     refine asc_wp g f (a+1) (by omega) (by omega) (h.snoc h1 (g.tri hr (by omega) (by omega) (by omega) c)) fun m m1 m2 m3 m4=>q m (by omega) (by omega) m3 ?_
     rcases m4 with z|z
     · exact .inl (by omega)
     · exact .inr z
theorem desc_wp {p:Array Nat} (g:GP n p) {Q:Array Nat × Nat × Nat->Shared->Prop}:∀(f a:Nat),1<=a->a+f<=n->DescTo r p a->
  (∀m,a<=m->m<=a+f->DescTo r p m->Q (p,m,0) s)->(kas_desc f p a 0).kasWp cmp Q s
 |0,a,_,_,h,q=>q a (Nat.le_refl _) (Nat.le_refl _) h
 | f + 1, a, h1, h2, h, q => by
   refine hc _ _ _ (g.lt (by omega)) (g.lt (by omega)) ?_
   by_cases c:kAt r p a<kAt r p (a - 1)
   · have e:decide (r (p.getD a 0)<r (p.getD (a - 1) 0))=true:=decide_eq_true c
     rw [e]
     show (kas_desc f p (a+1) 0).kasWp cmp Q s
     exact desc_wp g f (a+1) (by omega) (by omega) (h.snoc h1 c) fun m m1 m2 m3=>q m (by omega) (by omega) m3
   · have e:decide (r (p.getD a 0)<r (p.getD (a - 1) 0))=false:=decide_eq_false c
     rw [e]
     refine hc _ _ _ (g.lt (by omega)) (g.lt (by omega)) ?_
     have c':=g.tri hr (by omega) (by omega) (by omega) c
     have e':decide (r (p.getD (a - 1) 0)<r (p.getD a 0))=true:=decide_eq_true c'
     rw [e']
     exact q a (Nat.le_refl _) (by omega) h
omit hr hc in
theorem GP.rev {p:Array Nat} (g:GP n p) (i j:Nat):GP n (kas_rev p i j):=(mirror_perm _ _ _ _).trans g
omit hr hc in
theorem kAt_rev {p:Array Nat} (g:GP n p) {m i:Nat} (hm:m<=n) (hi:i<m):kAt r (kas_rev p 0 m) i=kAt r p (m - 1 - i):=by
 have hs:=g.size
 have e:=getElem?_mirror_all (xs:=p) (i:=0) (j:=m) (by omega) i
 unfold kAt kas_rev
 congr 1
 have a1:(mirror p 0 m ((m - 0) / 2)).getD i 0=((mirror p 0 m ((m - 0) / 2))[i]?).getD 0:=by simp [Array.getD_eq_getD_getElem?]
 have a2:p.getD (m - 1 - i) 0=(p[m - 1 - i]?).getD 0:=by simp [Array.getD_eq_getD_getElem?]
 rw [a1,a2]
 congr 1
 rw [e]
 have h1:0<=i/\i<m:=⟨Nat.zero_le _,hi⟩
 simp [h1,hi]
 try (congr 1;omega)
omit hr hc in
theorem DescTo.rev {p:Array Nat} {m:Nat} (g:GP n p) (hm:m<=n) (h:DescTo r p m):AscTo r (kas_rev p 0 m) m:=by
 intro i j hij hj
 rw [kAt_rev g hm (by omega),kAt_rev g hm hj]
 exact h _ _ (by omega) (by omega)
theorem count_wp {p:Array Nat} (g:GP n p) (h1:1<=n) {Q:Nat × Array Nat->Shared->Prop} (q:∀m p',1<=m->m<=n->GP n p'->AscTo r p' m->Q (m,p') s):(kas_count n p).kasWp cmp Q s:=by
 unfold kas_count
 rw [KasT.kasWp_bind]
 refine asc_wp hr hc g (n - 1) 1 (Nat.le_refl _) (by omega) (fun i j _ _=>by omega) fun m m1 m2 m3 m4=>?_
 by_cases e:m=n
 · subst e
   simp only [beq_self_eq_true,if_true]
   exact q m p m1 (Nat.le_refl _) g m3
 · rw [if_neg (by simpa using e)]
   have c:=m4.resolve_left (by omega)
   by_cases e1:m > 1
   · have:=m3 (m - 1 - 1) (m - 1) (by omega) (by omega)
     rw [if_pos e1]
     refine hc _ _ _ (g.lt (by omega)) (g.lt (by omega)) ?_
     have c1:kAt r p 0<kAt r p (m - 1):=m3 0 (m - 1) (by omega) (by omega)
     have e2:decide (r (p.getD 0 0)<r (p.getD (m - 1) 0))=true:=decide_eq_true c1
     rw [e2]
     exact q m p m1 (by omega) g m3
   · rw [if_neg e1]
     have e2:m=1:=by omega
     subst e2
     unfold kas_descPart
     rw [KasT.kasWp_bind]
     have d2:DescTo r p (1+1):=by
      intro i j hij hj
      have:i=0/\j=1:=by omega
      obtain ⟨rfl,rfl⟩:=this
      exact c
     refine desc_wp hr hc g (n - (1+1)) (1+1) (by omega) (by omega) d2 fun k k1 k2 k3=>?_
     show (kas_tail3 k n p).kasWp cmp Q s
     unfold kas_tail3
     rw [KasT.kasWp_bind]
     refine asc_wp hr hc (g.rev 0 k) (n - k) k (by omega) (by omega) (k3.rev g (by omega)) fun j j1 j2 j3 _=>?_
     exact q j _ (by omega) (by omega) (g.rev 0 k) j3
theorem place_wp {p:Array Nat} (g:GP n p) {k:Nat} (hk:k<n) (ha:AscTo r p k) {Q:Nat->Shared->Prop}:∀(f l t:Nat),l<=t->t<=k->t - l<=f->(∀i,i<l->kAt r p i<kAt r p k)->(∀i,t<=i->i<k->kAt r p k<kAt r p i)->
  (∀l,l<=k->(∀i,i<l->kAt r p i<kAt r p k)->(∀i,l<=i->i<k->kAt r p k<kAt r p i)->Q l s)->(kas_place p k f l t).kasWp cmp Q s
 |0,l,t,h1,h2,h3,a,b,q=>q l (by omega) a fun i hi hik=>b i (by omega) hik
 | f + 1, l, t, h1, h2, h3, a, b, q => by
   unfold kas_place
   by_cases e:l≥t
   · rw [if_pos e]
     exact q l (by omega) a fun i hi hik=>b i (by omega) hik
   · rw [if_neg e]
     refine hc _ _ _ (g.lt hk) (g.lt (by omega)) ?_
     by_cases c:kAt r p k<kAt r p ((l+t) / 2)
     · have e':decide (r (p.getD k 0)<r (p.getD ((l+t) / 2) 0))=true:=decide_eq_true c
       rw [e']
       refine place_wp g hk ha f l ((l+t) / 2) (by omega) (by omega) (by omega) a (fun i hi hik=>?_) q
       by_cases z:i=(l+t) / 2
       · rw [z];exact c
       · have:=ha ((l+t) / 2) i (by omega) hik
         omega
     · have e':decide (r (p.getD k 0)<r (p.getD ((l+t) / 2) 0))=false:=decide_eq_false c
       rw [e']
       have c':=g.tri hr hk (by omega) (by omega) c
       refine place_wp g hk ha f ((l+t) / 2+1) t (by omega) h2 (by omega) (fun i hi=>?_) b q
       by_cases z:i=(l+t) / 2
       · rw [z];exact c'
       · have:=ha i ((l+t) / 2) (by omega) (by omega)
         omega
omit hr hc in
theorem kAt_bubble {p:Array Nat} (g:GP n p) {k l:Nat} (hk:k<n) (hl:l<=k) (i:Nat):kAt r (bubble p k (k - l)) i=if i=l then kAt r p k else if l<i/\i<=k then kAt r p (i - 1) else kAt r p i:=by
 have hs:=g.size
 have e:=getElem?_bubble (xs:=p) (src:=k) (by omega) (k - l) (by omega) i
 have a0:∀(q:Array Nat) (j:Nat),q.getD j 0=(q[j]?).getD 0:=fun q j=>by simp [Array.getD_eq_getD_getElem?]
 unfold kAt
 rw [a0,e]
 have hl':k - (k - l)=l:=by omega
 rw [hl']
 split
 · rw [a0]
 · split
   · rw [a0]
   · rw [a0]
omit hr hc in
theorem bubble_asc {p:Array Nat} (g:GP n p) {k l:Nat} (hk:k<n) (hl:l<=k) (ha:AscTo r p k) (a:∀i,i<l->kAt r p i<kAt r p k) (b:∀i,l<=i->i<k->kAt r p k<kAt r p i):AscTo r (bubble p k (k - l)) (k+1):=by
 intro i j hij hj
 rw [kAt_bubble g hk hl,kAt_bubble g hk hl]
 by_cases i1:i=l
 · rw [if_pos i1,if_neg (by omega),if_pos (by omega)]
   exact b _ (by omega) (by omega)
 · rw [if_neg i1]
   by_cases i2:l<i/\i<=k
   · rw [if_pos i2,if_neg (by omega),if_pos (by omega)]
     exact ha _ _ (by omega) (by omega)
   · rw [if_neg i2]
     by_cases j1:j=l
     · rw [if_pos j1];exact a _ (by omega)
     · rw [if_neg j1]
       by_cases j2:l<j/\j<=k
       · rw [if_pos j2]
         by_cases z:i=j - 1
         · omega
         · exact ha _ _ (by omega) (by omega)
       · rw [if_neg j2];exact ha _ _ hij (by omega)
theorem bin_wp {Q:Array Nat->Shared->Prop}:∀(f k:Nat) (p:Array Nat),k+f=n->1<=k->GP n p->AscTo r p k->(∀p',GP n p'->AscTo r p' n->Q p' s)->(kas_bin f p k).kasWp cmp Q s
 |0,k,p,e,_,g,a,q=>q p g (by rw [show n=k by omega];exact a)
 | f + 1, k, p, e, h1, g, a, q => by
   unfold kas_bin
   rw [KasT.kasWp_bind]
   refine place_wp hr hc g (by omega) a k 0 k (by omega) (Nat.le_refl _) (by omega) (fun i hi=>by omega) (fun i hi hik=>by omega) fun l l1 l2 l3=>?_
   exact bin_wp f (k+1) _ (by omega) (by omega) ((bubble_perm _ _ _).trans g) (bubble_asc g (by omega) l1 a l2 l3) q
theorem sort_wp (h1:1<=n) {Q:Array Nat->Shared->Prop} (q:∀p,GP n p->AscTo r p n->Q p s):(kas_sort n).kasWp cmp Q s:=by
 unfold kas_sort
 rw [KasT.kasWp_bind]
 refine count_wp hr hc (Array.Perm.refl _) h1 fun m p' m1 m2 g a=>?_
 show (if m<n then kas_bin (n - max m 1) p' (max m 1) else KasT.ret p').kasWp cmp Q s
 have em:max m 1=m:=by omega
 rw [em]
 by_cases e:m<n
 · rw [if_pos e]
   exact bin_wp hr hc (n - m) m p' (by omega) m1 g a q
 · rw [if_neg e]
   exact q p' g (by rw [show n=m by omega];exact a)
end
end R
end
section
namespace R
open PySem PySem.Spec PyProof.Rows L2
variable [Mks]
theorem lam_run {CX:CXT} {P:Program} {w:World} {K:PySem.W.Frag} {mg:Str->Option Value} {base:Heap} {k:Nat} {f c':Addr} {name qual:Str} {params:Arguments} {body:Expr} {scope:Scope} {pm ct:Value} {N ps:List Str}
  {A:Around} {outer:List Env} {s:Shared} {H:Hp} {args:Args} {us:List Value} {vs:List V} {Q:VK} {E:XK} {t:TE} (S:FnScope N ps scope) (hr:Room (k+1) A) (e0:Env0 P w K mg base A outer s H)
  (ho:s.heap.get? f=some (PySem.W.kla_obj name qual params body scope [] pm c' ct)) (hcd:s.heap.CodeRec (.ref c') qual)
  (hb:BindsTo s (PySem.W.kla_fn name qual params body scope [] pm (.ref c') ct) args (ps.zip us)) (r:Vals vs us) (hl:vs.length=ps.length)
  (ht:Room k (A.deeper (envOfC qual scope s.heap.objs.size f (.ref c')))->PE (cxOf CX P w K mg base N qual scope f (.ref c') A outer s H E) body t) (hq:t (start N vs) H Q) :
  codeAny (model P w) A (.call (.ref f) args) (CR CX outer P w H s Q E) s:=by
 have lim:s.heap.NoLimit:=e0.mod.nolimit.keeps fun b o e=>(e0.bs b o e).1
 have kinds:∀y∈ps.zip us,scope.names.lookup y.1=some .local\/(scope.names.lookup y.1=some .cell/\((cellsFrom (s.heap.objs.size+1) scope.names []).lookup y.1).isSome=true):=fun ⟨x,v⟩ hy=>
  (S.par x (List.of_mem_zip hy).1).elim .inl fun q=>.inr ⟨q,PySem.W.cellsFrom_some _ _ _ (.inl q)⟩
 refine PySem.W.kla_callFunE hr.depth ho rfl S.co S.gen rfl hcd (hb _ _ _ _ ?_)
 refine wpAny_newFunctionEnv_cells S.kind kinds fun env he s1 x=>?_
 subst he
 refine ⟨lim.keeps x.toInCall.keep,PySem.W.kla_codeExpr ?_⟩
 have I:Inv (cxOf CX P w K mg base N qual scope f (.ref c') A outer s H E) [] (start N vs) H s1:=inv_start S hr.hd e0 hl r x
 exact wpAny_mono (ht (hr.deeper _) [] s1 (start N vs) H _ I hq) (fun u s' ⟨v,H',J,rv,q⟩=>⟨v,H',J.os,J.bare,J.base,J.hok,rv,q⟩) fun e s' hs=>hs
end R
end
section
namespace R
open PySem PySem.Spec PyProof.Rows L2
variable [Mks]
noncomputable def keyCE:CE:=.tup (.cons (.neg (.ix (.loc 0) (.con (.int 1)))) (.cons (.ix (.loc 0) (.con (.int 0))) .nil))
noncomputable def noTab:Tab:={blt:=[],cons:=[],fns:=[]}
noncomputable def noCF:CF:=fun _ _ _=>.bad
theorem noTab_ok {k:Nat} {P:Program} {w:World} {K:PySem.W.Frag} {mg:Str->Option Value} {base:Heap}:TabOk noTab noCF k P w K mg base:=
 ⟨fun x h=>(by cases h),fun x d h=>(by cases h),fun f x ps nd h=>(by simp [noTab] at h),fun f ds S d T' h=>(by cases h),fun c x h=>(by simp [noTab] at h),fun c m f h=>(by simp [noTab] at h),fun c f h=>(by simp [noTab] at h),fun x m f h=>(by simp [noTab] at h),fun h=>(by simp [noTab] at h),fun x cs h=>(by simp [noTab] at h)⟩
theorem ev_key (S:R.St) (k v:Int):evE noCF keyCE [some (.tup [.int k,.int v])] S=.ok (.tup [.int (-v),.int k]) S:=by
 simp [keyCE,evE,evEs,lift,Out.bind,seqOf,atI,ixN]
structure LamAt (H:Hp) (f:Addr) (name qual:Str) (params:Arguments) (body:Expr) (scope:Scope):Prop where
 ex:∃(pm ct:Value) (c':Addr) (oc:Obj) (vs:Array Value) (t:Tok),H f=some (.frz (PySem.W.kla_obj name qual params body scope [] pm c' ct) (.own 0))/\H c'=some (.frz oc (.own 0))/\oc.data=.fields vs/\vs[1]?=some (.str qual t)
theorem LamAt.up {H H':Hp} {f:Addr} {name qual:Str} {params:Arguments} {body:Expr} {scope:Scope} (L:LamAt H f name qual params body scope) (k:Kp H H'):LamAt H' f name qual params body scope:=by
 obtain ⟨pm,ct,c',oc,vs,t,h1,h2,h3⟩:=L.ex
 exact ⟨pm,ct,c',oc,vs,t,k.frzs _ _ _ h1,k.frzs _ _ _ h2,h3⟩
theorem rh_nil {K:PySem.W.Frag} {H:Hp} (tb:TB H):RH K [] H ⟨[],[],[]⟩:=⟨rfl,List.nodup_nil,fun l o h=>(by simp [St.get] at h),tb⟩
theorem key_call {X:Cx} {pins:List (Addr × Obj)} {σ:L2.St} {H:Hp} {s:Shared} {A':Around} {f a:Addr} {name qual:Str} {params:Arguments} {body:Expr} {scope:Scope} {k v:Int} {u:Value} (I:Inv X pins σ H s) (hr:Room 2 A')
  (e0:Env0 X.prog X.w X.K X.mg X.base A' X.stack s H) (L:LamAt H f name qual params body scope) (hs:FnScope ["row"] ["row"] scope)
  (hb:∀(pm cd ct:Value),bindArgs (PySem.W.kla_fn name qual params body scope [] pm cd ct) ⟨[u],[]⟩=pure [(("row":Str),u)]) (ck:chkE noTab keyCE ["row"] scope body=true)
  (tb:TB H) (ha:H a=some (.tup [.int k,.int v])) (hu:L2.RelV (.ref a) u) :
  wpAny (model X.prog X.w) A' (call (.ref f) [u]) (fun y s'=>∃b H',y=.ref b/\Inv X pins σ H' s'/\H' b=some (.tup [.int (-v),.int k])/\Ext [] H [] H'/\Un (frs X.stack) [] H H' s.heap s'.heap) (fun _ _=>False) s:=by
 obtain ⟨pm,ct,c',oc,vs,t,h1,h2,h3,h4⟩:=L.ex
 have of:=(I.hok f _ h1).1
 have oo:=(I.hok c' _ h2).1
 refine wpAny_call (codeAny_mono (lam_run (CX:=CX0) (E:=fun _ _ _=>False) (Q:=fun w H'=>∃b,w=V.ref b/\H' b=some (.tup [.int (-v),.int k])/\Ext [] H [] H') (vs:=[V.ref a]) (us:=[u]) (t:=tE X.K noCF keyCE) hs hr e0 of ⟨c',oc,vs,t,rfl,oo,h3,h4⟩
  (.of_eq (hb pm _ ct)) (.cons hu .nil) rfl (fun hr'=>PE.nox (chkE_ok keyCE (T:=noTab) (k:=0) ⟨rfl,hs.nd,fun x e=>e,fun x e=>e,fun x e=>.inl e,fun x e=>e,.inl fun _=>rfl,rfl,rfl,hr',noTab_ok⟩ ck)) ?_) fun r s' q=>?_)
 · refine ⟨[some (.tup [.int k,.int v])],[],⟨[],[],[]⟩,fun d S=>d=.tup [.int (-v),.int k],⟨rfl,fun i d hi=>?_⟩,rh_nil tb,by rw [ev_key];exact rfl,?_⟩
   · match i,hi with
     |0,hi=>cases hi;exact ⟨.ref a,rfl,a,_,rfl,ha,_,_,rfl,rfl,_,_,rfl,rfl,rfl⟩
     |j+1,hi=>simp at hi
   · rintro w H' ⟨d,ι',S',x,rv,hh,rfl⟩
     obtain ⟨b,xs,rfl,hx,p1,p2,rfl,q1,p3,p4,rfl,q3,q4⟩:=rv
     cases q1;cases q3;cases q4
     exact ⟨b,rfl,hx,x.cut⟩
 · cases r with
   |error e=>exact q.elim
   | ok fl =>
     cases fl with
     | ret y =>
       obtain ⟨w,H',os,bare,un,hok,rv,b,rfl,hb',x⟩:=q
       cases y with
       | ref z =>
         have:z=b:=by simpa [L2.RelV] using rv
         exact ⟨b,H',by rw [this],I.call' os un hok bare (fun b z=>absurd z (by simp)),hb',x,un⟩
       |_=>simp [L2.RelV] at rv
     |_=>exact q.elim
end R
end
section
namespace R
open PySem PySem.Spec PyProof.Rows L2
variable [Mks]
section
variable {X:Cx} {pins:List (Addr × Obj)} {σ:L2.St} {H H':Hp} {s:Shared}
structure Own (X:Cx) (pins:List (Addr × Obj)) (b:Addr):Prop where
 new:X.s₀.heap.objs.size<=b
 loc:b≠X.env.locals
 cel:∀x c,X.env.cells.lookup x=some c->c≠b
 pin:∀p∈X.pn++pins,p.1≠b
theorem Own.fresh (I:Inv X pins σ H s) {b:Addr} (h:s.heap.objs.size<=b):Own X pins b:=by
 refine ⟨Nat.le_trans I.sz h,fun e=>?_,fun x c e z=>?_,fun p hp z=>?_⟩
 · exact absurd (Nat.lt_of_lt_of_le I.lt h) (by rw [e];exact Nat.lt_irrefl _)
 · obtain ⟨v,o,ho,_⟩:=I.cell x c e
   exact absurd (Nat.lt_of_lt_of_le (Heap.lt_size ho) h) (by rw [z];exact Nat.lt_irrefl _)
 · exact absurd (Nat.lt_of_lt_of_le (Heap.lt_size (I.pin p hp).1) h) (by rw [z];exact Nat.lt_irrefl _)
theorem Own.stk (o:Own X pins b) (I:Inv X pins σ H s):b∉frs X.stack:=fun hb=>by
 rcases List.mem_cons.mp (I.stkSub b hb) with e|e
 · exact o.loc e
 · obtain ⟨_,ob,ho,_⟩:=I.ok.funs.mem e
   exact absurd (Nat.lt_of_lt_of_le (Heap.lt_size ho) o.new) (Nat.lt_irrefl _)
theorem inv_touch {h':Heap} {g':Array GenState} {t':Nat} {d':Drawn} {ch:List Addr} (I:Inv X pins σ H s) (ow:∀b∈ch,Own X pins b) (hn:∀b∈ch,H b=none) (k:∀b o,b∉ch->s.heap.get? b=some o->h'.get? b=some o) (hg:AllBare g') :
  Inv X pins σ H {s with heap:=h',gens:=g',drawn:=d',toks:=t'}:=by
 refine I.call (ch:=ch) ⟨fun b o e n _ hx=>k b o hx e,fun b o e n _ hx=>⟨o.slots,k b o hx e⟩,fun b o _ n _=>n,fun b o e hx=>⟨o,k b o hx e⟩,fun _ _ e=>e,fun _ _ _ e=>e,fun b ps e=>⟨#[],by rw [e];simp⟩⟩ ?_ hg fun b hb=>⟨.inr (ow b hb).new,(ow b hb).loc,(ow b hb).cel,(ow b hb).pin⟩
 intro a o e
 refine (I.hok a o e).stay (fun b u hb q=>k b u (fun z=>?_) q) (fun _ q=>q) fun _ _ q=>q
 have:=hn b z
 rcases hb with rfl|hb
 · rw [e] at this;cases this
 · rw [hb] at this;cases this
end
noncomputable abbrev LstAt (s:Shared) (a:Addr) (vs:List Value) (e:Nat):Prop:=s.heap.get? a=some (seqObj "list" vs.toArray e)
theorem put_list {s:Shared} {a:Addr} {vs us:List Value} {e:Nat} (h:LstAt s a vs e) (g:Array Value->Array Value) (hg:g vs.toArray=us.toArray):∃e',LstAt {s with heap:=s.heap.update a (Obj.mapSeq g)} a us e':=
 ⟨_,by have:=get?_update_seq h g;rw [hg] at this;exact this⟩
theorem put_else {s:Shared} {a b:Addr} {o:Obj} {g:Obj->Obj} (n:b≠a) (h:s.heap.get? b=some o):(s.heap.update a g).get? b=some o:=by
 rw [Heap.get?_update_ne _ _ _ _ n];exact h
structure KeyL (rows:List (Int × Int)) (H:Hp) (ks:List Value) (i:Nat):Prop where
 len:ks.length=i
 at_:∀(j:Nat) (k:Value),ks[j]?=some k->∃(b:Addr) (r:Int × Int),rows[j]?=some r/\k=Value.ref b/\H b=some (.tup [.int (-r.2),.int r.1])
theorem KeyL.snoc {rows:List (Int × Int)} {H H':Hp} {ks:List Value} {i:Nat} {b:Addr} {r:Int × Int} (K:KeyL rows H ks i) (x:Ext [] H [] H') (hr:rows[i]?=some r) (hb:H' b=some (.tup [.int (-r.2),.int r.1])):KeyL rows H' (ks++[.ref b]) (i+1):=by
 refine ⟨by simp [K.len],fun j k hj=>?_⟩
 by_cases h:j<ks.length
 · rw [List.getElem?_append_left h] at hj
   obtain ⟨c,q,h1,h2,h3⟩:=K.at_ j k hj
   exact ⟨c,q,h1,h2,x.kp.tups _ _ h3⟩
 · rw [List.getElem?_append_right (by omega)] at hj
   have:j=ks.length:=by
    have:=(List.getElem?_eq_some_iff.mp hj).1
    simp at this;omega
   subst this
   simp at hj
   exact ⟨b,r,by rw [K.len];exact hr,hj.symm,hb⟩
section
variable {X:Cx} {pins:List (Addr × Obj)} {σ:L2.St} {H:Hp} {s:Shared} {A':Around} {f D kS:Addr} {name qual:Str} {params:Arguments} {body:Expr} {scope:Scope} {rows:List (Int × Int)}
structure KJ (X:Cx) (pins:List (Addr × Obj)) (σ:L2.St) (H:Hp) (D kS:Addr) (e1:Nat) (rows:List (Int × Int)) (i:Nat) (s':Shared):Prop where
 ex:∃H' ks e,Inv X pins σ H' s'/\Ext [] H [] H'/\H' D=none/\H' kS=none/\LstAt s' D [] e1/\LstAt s' kS ks e/\KeyL rows H' ks i
theorem kj_turn {e1 i:Nat} {a:Addr} {r:Int × Int} (hr:Room 2 A') (e0:∀H s,Inv X pins σ H s->Env0 X.prog X.w X.K X.mg X.base A' X.stack s H) (L:LamAt H f name qual params body scope) (hs:FnScope ["row"] ["row"] scope)
  (hb:∀(pm cd ct u:Value),bindArgs (PySem.W.kla_fn name qual params body scope [] pm cd ct) ⟨[u],[]⟩=pure [(("row":Str),u)]) (ck:chkE noTab keyCE ["row"] scope body=true) (tb:TB H)
  (oD:Own X pins D) (oK:Own X pins kS) (ne:D≠kS) (ha:H a=some (.tup [.int r.1,.int r.2])) (hri:rows[i]?=some r) (hi:i<64) {s':Shared} (J:KJ X pins σ H D kS e1 rows i s') {items:Array Value} :
  wpAny (model X.prog X.w) A' (do
   match <-(call (.ref f) [.ref a]).attempt with
   |.ok k=>Builtin.List.listUpdate (.ref kS) (·.push k);pure (ForInStep.yield PUnit.unit)
   | .error e =>
     rule "list.sort.key-raised"
     let made <-Builtin.List.listItems (.ref kS)
     Builtin.List.listUpdate (.ref kS) fun _=>#[]
     letGo made.toList.reverse [e]
     Builtin.List.listUpdate (.ref D) fun _=>items;throw e) (fun q s''=>q=.yield ⟨⟩/\KJ X pins σ H D kS e1 rows (i+1) s'') (fun _ _=>False) s':=by
 obtain ⟨H1,ks,e,I,x,d1,k1,lD,lK,kl⟩:=J.ex
 refine wpAny_bind (wpAny_attempt (wpAny_mono (key_call I hr (e0 _ _ I) (L.up x.kp) hs (fun pm cd ct=>hb pm cd ct _) ck (x.kp.tab tb) (x.kp.tups _ _ ha) (show L2.RelV (.ref a) (.ref a) from rfl)) ?_ fun _ _ z=>z.elim))
 rintro y s2 ⟨b,H2,rfl,I2,hb2,x2,un⟩
 have D2:=un.keep D _ lD d1 (oD.stk I) (by simp)
 have K2:=un.keep kS _ lK k1 (oK.stk I) (by simp)
 have hz:ks.length=i:=kl.len
 show wpAny _ _ (Builtin.List.listUpdate (.ref kS) (·.push (.ref b)) >>= fun _=>pure (ForInStep.yield PUnit.unit)) _ _ s2
 refine wpAny_bind (listUpdate_at K2 rfl (wpAny_pure ⟨rfl,?_⟩) (by rw [List.size_toArray,sizeLine_eq];omega) (by rw [Array.size_push,List.size_toArray,sizeLine_eq];omega))
 obtain ⟨e',l'⟩:=put_list (us:=ks++[.ref b]) K2 (·.push (.ref b)) (by simp)
 refine ⟨H2,ks++[.ref b],e',?_,x.trans x2,un.free D _ lD d1 (by simp),un.free kS _ lK k1 (by simp),put_else ne D2,l',kl.snoc x2 hri hb2⟩
 exact inv_touch I2 (ch:=[kS]) (fun b hb=>by rw [List.mem_singleton.mp hb];exact oK) (fun b hb=>by rw [List.mem_singleton.mp hb];exact un.free kS _ lK k1 (by simp)) (fun b o hb q=>put_else (by simpa using hb) q) I2.bare
end
end R
end
section
namespace R
open PySem PySem.Spec PyProof.Rows L2
variable [Mks]
noncomputable def rkOf (M:Int) (a:Int × Int):Int:=-a.2 * (2 * M+1)+a.1
theorem rk_lt {M:Int} {a b:Int × Int} (ha:-M<=a.1/\a.1<=M) (hb:-M<=b.1/\b.1<=M):rkOf M a<rkOf M b↔(-a.2 < -b.2\/(a.2=b.2/\a.1<b.1)):=by
 unfold rkOf
 constructor
 · intro h
   by_cases e:a.2=b.2
   · rw [e] at h;exact .inr ⟨e,by omega⟩
   · by_cases c:-a.2 < -b.2
     · exact .inl c
     · have c':-b.2+1<=-a.2:=by omega
       have:=Int.mul_le_mul_of_nonneg_right c' (show (0:Int)<=2 * M+1 by omega)
       rw [Int.add_mul] at this
       omega
 · rintro (c|⟨e,c⟩)
   · have c':-a.2+1<=-b.2:=by omega
     have:=Int.mul_le_mul_of_nonneg_right c' (show (0:Int)<=2 * M+1 by omega)
     rw [Int.add_mul] at this
     omega
   · rw [e];omega
theorem rk_bound:∀rows:List (Int × Int),∃M:Int,∀r∈rows,-M<=r.1/\r.1<=M
 | []=>⟨0,fun r h=>by cases h⟩
 | a :: rows => by
   obtain ⟨M,h⟩:=rk_bound rows
   refine ⟨max M (max a.1 (-a.1)),fun r hr=>?_⟩
   rcases List.mem_cons.mp hr with rfl|hr
   · omega
   · have:=h r hr
     omega
theorem tally_eq {rows out:List (Int × Int)} (hp:out.Perm rows) (ho:out.Pairwise fun a b=>rowLe a b=true):out=tallyL rows:=by
 refine List.Perm.eq_of_pairwise (le:=fun a b=>rowLe a b=true) (fun a b _ _ h1 h2=>?_) ho (List.pairwise_mergeSort (fun a b c h1 h2=>?_) (fun a b=>?_) rows) (hp.trans (List.mergeSort_perm rows rowLe).symm)
 · obtain ⟨a1,a2⟩:=a;obtain ⟨b1,b2⟩:=b
   simp only [rowLe,decide_eq_true_eq] at h1 h2
   have e1:a1=b1:=by omega
   have e2:a2=b2:=by omega
   rw [e1,e2]
 · simp only [rowLe,decide_eq_true_eq] at h1 h2⊢;omega
 · simp only [rowLe,Bool.or_eq_true,decide_eq_true_eq];omega
theorem perm_map {α:Type} {xs:List α} {p:List Nat} (d:α) (hp:p.Perm (List.range xs.length)):(p.map fun i=>xs.getD i d).Perm xs:=by
 have h:=hp.map fun i=>xs.getD i d
 refine h.trans (List.Perm.of_eq ?_)
 apply List.ext_getElem
 · simp
 · intro i h1 h2
   simp [h2]
theorem asc_rows {rows:List (Int × Int)} {M:Int} (hM:∀r∈rows,-M<=r.1/\r.1<=M) {p:Array Nat} (g:GP rows.length p) (a:AscTo (fun i=>rkOf M (rows.getD i (0,0))) p rows.length) :
  (p.toList.map fun i=>rows.getD i (0,0))=tallyL rows:=by
 refine tally_eq (perm_map _ g.list) ?_
 rw [List.pairwise_map,List.pairwise_iff_getElem]
 intro i j hi hj hij
 have hs:=g.size
 have hi':i<p.size:=by simpa using hi
 have hj':j<p.size:=by simpa using hj
 have h:=a i j hij (by omega)
 unfold kAt at h
 rw [getD_list p hi',getD_list p hj'] at h
 have mem:∀k,k<rows.length->rows.getD k (0,0)∈rows:=fun k hk=>by
  rw [List.getD_eq_getElem?_getD,List.getElem?_eq_getElem hk];exact List.getElem_mem hk
 have li:p.toList[i]<rows.length:=by rw [<-getD_list p hi'];exact g.lt (by omega)
 have lj:p.toList[j]<rows.length:=by rw [<-getD_list p hj'];exact g.lt (by omega)
 have:=(rk_lt (hM _ (mem _ li)) (hM _ (mem _ lj))).mp h
 simp only [rowLe,decide_eq_true_eq]
 omega
end R
end
section
namespace R
open PySem PySem.Spec PyProof.Rows L2
variable [Mks]
section
variable {X:Cx} {pins:List (Addr × Obj)} {σ:L2.St} {H:Hp} {s:Shared} {A':Around} {D kS:Addr} {rows:List (Int × Int)}
theorem key_obj {h:Heap} {b:Addr} {x y:Int} {P:Program} {w:World} (ok:HOk P w H h) (e:H b=some (.tup [.int x,.int y])):∃(o:Obj) (t u:Tok) (n:Nat),h.get? b=some o/\o.cls=.type "tuple"/\o.data=.seq #[.int x t,.int y u] n:=by
 obtain ⟨_,its,r,o,h1,h2,n,h3⟩:=ok b _ e
 cases r with
 | cons r1 r =>
   cases r with
   | cons r2 r =>
     cases r with
     | nil =>
       obtain ⟨t,rfl⟩:=r1
       obtain ⟨u,rfl⟩:=r2
       exact ⟨o,t,u,n,h1,h2,h3⟩
theorem key_lt {b c:Addr} {x y x' y':Int} (ok:HOk X.prog X.w H s.heap) (e:H b=some (.tup [.int x,.int y])) (e':H c=some (.tup [.int x',.int y'])) {Q:Bool->Shared->Prop} {E:Value->Shared->Prop}
  (q:Q (decide (x<x'\/(x=x'/\y<y'))) s):wpAny (model X.prog X.w) A' (keyLt' (tuples' true) (.ref b) (.ref c)) Q E s:=by
 obtain ⟨o,t,u,n,h1,_,h3⟩:=key_obj ok e
 obtain ⟨o',t',u',n',h1',_,h3'⟩:=key_obj ok e'
 refine PySem.W.kat_lt h1 h3 h1' h3' (PySem.W.kat_cons (wpAny_eqBool_int ?_))
 by_cases d:x=x'
 · have ed:(x == x')=true:=by simpa using d
   rw [ed]
   refine PySem.W.kat_yes (PySem.W.kat_cons (wpAny_eqBool_int ?_))
   by_cases d2:y=y'
   · have ed2:(y == y')=true:=by simpa using d2
     rw [ed2]
     refine PySem.W.kat_yes (PySem.W.kat_nil ?_)
     have:decide (x<x'\/(x=x'/\y<y'))=decide ((#[Value.int x t,Value.int y u]:Array Value).size<(#[Value.int x' t',Value.int y' u']:Array Value).size):=by
      rw [decide_eq_false (by omega)];rfl
     rw [this] at q
     exact q
   · have ed2:(y == y')=false:=by simpa using d2
     rw [ed2]
     refine PySem.W.kat_no (PySem.W.kat_one _ _ (wpAny_lt_int ?_))
     have:decide (x<x'\/(x=x'/\y<y'))=decide (y<y'):=by
      by_cases z:y<y'
      · rw [decide_eq_true z,decide_eq_true (.inr ⟨d,z⟩)]
      · rw [decide_eq_false z,decide_eq_false (by omega)]
     rw [this] at q
     exact q
 · have ed:(x == x')=false:=by simpa using d
   rw [ed]
   refine PySem.W.kat_no (oneLt_int ?_)
   have:decide (x<x'\/(x=x'/\y<y'))=decide (x<x'):=by
    by_cases z:x<x'
    · rw [decide_eq_true z,decide_eq_true (.inl z)]
    · rw [decide_eq_false z,decide_eq_false (by omega)]
   rw [this] at q
   exact q
theorem key_tups {h:Heap} {P:Program} {w:World} (ok:HOk P w H h):∀(ks:List Value),(∀k∈ks,∃b x y,k=Value.ref b/\H b=some (.tup [.int x,.int y]))->∃fs:List Value,PySem.W.KatTups h ks fs/\fs.length=ks.length/\∀v∈fs,∃n t,v=Value.int n t
 | [],_=>⟨[],PySem.W.KatTups.nil,rfl,fun v h=>by cases h⟩
 | k :: ks, hk => by
   obtain ⟨fs,h1,h2,h3⟩:=key_tups ok ks fun k h=>hk k (List.mem_cons_of_mem _ h)
   obtain ⟨b,x,y,rfl,e⟩:=hk k List.mem_cons_self
   obtain ⟨o,t,u,n,g1,g2,g3⟩:=key_obj ok e
   refine ⟨.int x t::fs,PySem.W.KatTups.cons g1 g2 g3 rfl h1,by simp [h2],fun v hv=>?_⟩
   rcases List.mem_cons.mp hv with rfl|hv
   · exact ⟨x,t,rfl⟩
   · exact h3 v hv
theorem key_kind {ks:List Value} (ok:HOk X.prog X.w H s.heap) (hk:∀k∈ks,∃b x y,k=Value.ref b/\H b=some (.tup [.int x,.int y])) (h1:1<=ks.length) {Q:SortKind->Shared->Prop} {E:Value->Shared->Prop} (q:Q (tuples' true) s) :
  wpAny (model X.prog X.w) A' (keyKind' ks.toArray) Q E s:=by
 obtain ⟨fs,t1,t2,t3⟩:=key_tups ok ks hk
 refine PySem.W.kat_kind (T:=.type "int") t1 (by omega) (fun v hv=>?_) rfl q
 obtain ⟨n,t,rfl⟩:=t3 v hv
 exact .now
structure KEnd (X:Cx) (pins:List (Addr × Obj)) (σ:L2.St) (H:Hp) (D:Addr) (out:List Value) (s':Shared):Prop where
 ex:∃H' e,Inv X pins σ H' s'/\Ext [] H [] H'/\H' D=none/\LstAt s' D out e
theorem tail_wp {st:SortSt} {out:List Value} {e1 i:Nat} {P:PySem.Fin->Shared->Prop} {E:Value->Shared->Prop} (hout:(arrOf st).map (·.2)=out.toArray) (hz:out.length<64) (hi:i<64) (hf:failedOf st=none) (oD:Own X pins D) (oK:Own X pins kS) (ne:D≠kS)
  (J:KJ X pins σ H D kS e1 rows i s) (h:∀s',KEnd X pins σ H D out s'->P (.done (.ret .none)) s'):wpAny (model X.prog X.w) A' (ksk_tail D false e1 (.ref kS) st) P E s:=by
 obtain ⟨H1,ks,e,I,x,d1,k1,lD,lK,kl⟩:=J.ex
 have hk:ks.length<64:=by rw [kl.len];exact hi
 have I1:=inv_touch (h':=s.heap.update kS (Obj.mapSeq fun _=>#[])) (g':=s.gens) (t':=s.toks) (d':=s.drawn) (ch:=[kS]) I (fun b hb=>by rw [List.mem_singleton.mp hb];exact oK) (fun b hb=>by rw [List.mem_singleton.mp hb];exact k1) (fun b o hb q=>put_else (by simpa using hb) q) I.bare
 have lD1:LstAt {s with heap:=s.heap.update kS (Obj.mapSeq fun _=>#[])} D [] e1:=put_else ne lD
 obtain ⟨e',lD2⟩:=put_list (us:=out) lD1 (fun _=>out.toArray) rfl
 have I2:=inv_touch (h':=(s.heap.update kS (Obj.mapSeq fun _=>#[])).update D (Obj.mapSeq fun _=>out.toArray)) (g':=s.gens) (t':=s.toks) (d':=s.drawn) (ch:=[D]) I1 (fun b hb=>by rw [List.mem_singleton.mp hb];exact oD) (fun b hb=>by rw [List.mem_singleton.mp hb];exact d1) (fun b o hb q=>put_else (by simpa using hb) q) I.bare
 unfold ksk_tail
 rw [hout,hf]
 refine wpAny_bind (listUpdate_at lK rfl (wpAny_bind (wpAny_letGo (wpAny_bind (seqEpoch_at lD1 rfl (wpAny_bind (listUpdate_at lD1 rfl ?_ (by simp) (by simp only [Bool.false_eq_true,if_false,List.size_toArray,sizeLine_eq];omega))))))) (by rw [List.size_toArray,sizeLine_eq];omega) (by simp))
 simp only [bne_self_eq_false,Bool.false_eq_true,if_false]
 exact wpAny_pure (h _ ⟨H1,e',I2,x,d1,lD2⟩)
end
end R
end
section
namespace R
open PySem PySem.Spec PyProof.Rows L2
variable [Mks]
theorem getD_mem {α:Type} {xs:List α} {i:Nat} (d:α) (h:i<xs.length):xs[i]?=some (xs.getD i d):=by
 rw [List.getD_eq_getElem?_getD,List.getElem?_eq_getElem h];rfl
theorem rk_inj {rows:List (Int × Int)} {M:Int} (hM:∀r∈rows,-M<=r.1/\r.1<=M) (nd:(rows.map (·.1)).Nodup) {i j:Nat} (hi:i<rows.length) (hj:j<rows.length) (e:rkOf M (rows.getD i (0,0))=rkOf M (rows.getD j (0,0))):i=j:=by
 have mi:=List.mem_of_getElem? (getD_mem (0,0) hi)
 have mj:=List.mem_of_getElem? (getD_mem (0,0) hj)
 have n1:¬rkOf M (rows.getD i (0,0))<rkOf M (rows.getD j (0,0)):=by omega
 have n2:¬rkOf M (rows.getD j (0,0))<rkOf M (rows.getD i (0,0)):=by omega
 rw [rk_lt (hM _ mi) (hM _ mj)] at n1
 rw [rk_lt (hM _ mj) (hM _ mi)] at n2
 have e1:(rows.getD i (0,0)).1=(rows.getD j (0,0)).1:=by omega
 have hi':i<(rows.map (·.1)).length:=by simpa using hi
 have hj':j<(rows.map (·.1)).length:=by simpa using hj
 have a1:(rows.map (·.1))[i]=(rows.map (·.1))[j]:=by
  have q1:rows.getD i (0,0)=rows[i]:=by simp [hi]
  have q2:rows.getD j (0,0)=rows[j]:=by simp [hj]
  rw [q1,q2] at e1
  simpa using e1
 have pw:=List.pairwise_iff_getElem.mp nd
 rcases Nat.lt_trichotomy i j with z|z|z
 · exact absurd a1 (pw i j _ _ z)
 · exact z
 · exact absurd a1.symm (pw j i _ _ z)
section
variable {X:Cx} {pins:List (Addr × Obj)} {σ:L2.St} {H:Hp} {s:Shared} {A':Around} {D kS f:Addr} {rows:List (Int × Int)} {name qual:Str} {params:Arguments} {body:Expr} {scope:Scope}
structure Plc (rows:List (Int × Int)) (p:List Nat):Prop where
 lt:∀i∈p,i<rows.length
 eq:(p.map fun i=>rows.getD i (0,0))=tallyL rows
 perm:p.Perm (List.range rows.length)
theorem end_wp {vs:List Value} {e1:Nat} {P:PySem.Fin->Shared->Prop} {E:Value->Shared->Prop} (hl:vs.length=rows.length) (h64:rows.length<64) (nd:(rows.map (·.1)).Nodup) (oD:Own X pins D) (oK:Own X pins kS) (ne:D≠kS)
  (J:KJ X pins σ H D kS e1 rows rows.length s) (h:∀p s',Plc rows p->KEnd X pins σ H D (p.map fun i=>vs.getD i Value.none) s'->P (.done (.ret .none)) s') :
  wpAny (model X.prog X.w) A' (Builtin.List.listItems (.ref kS) >>= fun keys=>ksk_end D false vs.toArray e1 (.ref kS) keys) P E s:=by
 obtain ⟨H1,ks,e,I,x,d1,k1,lD,lK,kl⟩:=id J.ex
 refine wpAny_bind (listItems_at lK rfl ?_)
 unfold ksk_end
 simp only [Bool.false_eq_true,if_false]
 have klen:ks.length=vs.length:=by rw [kl.len,hl]
 by_cases h2:vs.toArray.size<2
 · rw [if_pos h2,if_pos h2]
   have h2':rows.length<2:=by rw [<-hl];simpa using h2
   refine wpAny_bind (wpAny_pure (wpAny_bind ?_))
   rw [StateT.run_pure]
   have eo:(arrOf (SortSt.mk' general' (ks.toArray.zip vs.toArray) #[] 7 none)).map (·.2)=vs.toArray:=by
    show ((ks.toArray.zip vs.toArray).map (·.2))=vs.toArray
    apply Array.toList_inj.mp
    rw [Array.toList_map,ksk_zip]
    show (ks.zip vs).map Prod.snd=vs
    exact List.map_snd_zip (by omega)
   have er:((List.range rows.length).map fun i=>vs.getD i Value.none)=vs:=by
    apply List.ext_getElem
    · simp [hl]
    · intro i g1 g2;simp [g2]
   refine wpAny_pure (tail_wp (i:=rows.length) eo (by omega) h64 rfl oD oK ne J fun s' K=>h (List.range rows.length) s' ⟨fun i hi=>List.mem_range.mp hi,?_,List.Perm.refl _⟩ (by rw [er];exact K))
   refine tally_eq (perm_map _ (List.Perm.refl _)) ?_
   rw [List.pairwise_map,List.pairwise_iff_getElem]
   intro i j hi hj hij
   simp at hi hj
   omega
 · have h2':2<=vs.length:=by simpa using h2
   rw [if_neg h2,if_neg h2]
   have hk:∀k∈ks,∃b x y,k=Value.ref b/\H1 b=some (.tup [.int x,.int y]):=fun k hm=>by
    obtain ⟨j,hj⟩:=List.mem_iff_getElem?.mp hm
    obtain ⟨b,r,_,q1,q2⟩:=kl.at_ j k hj
    exact ⟨b,_,_,q1,q2⟩
   refine wpAny_bind (key_kind I.hok hk (by omega) ?_)
   obtain ⟨M,hM⟩:=rk_bound rows
   refine wpAny_bind (wpAny_mono (PySem.W.kat_run (Q:=fun st' s'=>∃p:Array Nat,GP rows.length p/\AscTo (fun i=>rkOf M (rows.getD i (0,0))) p rows.length/\s'=s/\arrOf st'=p.map (PySem.W.kas_item (ks.toArray.zip vs.toArray))/\failedOf st'=none)
    (G:=fun p s'=>GP rows.length p/\AscTo (fun i=>rkOf M (rows.getD i (0,0))) p rows.length/\s'=s) klen h2' (by omega) (fun p st' s' _ a2 a3 a4=>⟨p,a4.1,a4.2.1,a4.2.2,a2,a3⟩) ?_) ?_ fun _ _ z=>z)
   · rw [hl]
     refine sort_wp (r:=fun i=>rkOf M (rows.getD i (0,0))) (fun i j hi hj e=>rk_inj hM nd hi hj e) (fun i j C hi hj hC=>?_) (by omega) fun p g a=>⟨g,a,rfl⟩
     obtain ⟨b,r,b1,b2,b3⟩:=kl.at_ i _ (getD_mem Value.none (by omega))
     obtain ⟨c,r',c1,c2,c3⟩:=kl.at_ j _ (getD_mem Value.none (by omega))
     have er:rows.getD i (0,0)=r:=by rw [List.getD_eq_getElem?_getD,b1];rfl
     have er':rows.getD j (0,0)=r':=by rw [List.getD_eq_getElem?_getD,c1];rfl
     show wpAny (model X.prog X.w) A' (keyLt' (tuples' true) (ks.getD i Value.none) (ks.getD j Value.none)) C (fun _ _=>False) s
     rw [b2,c2]
     refine key_lt I.hok b3 c3 ?_
     have:decide (-r.2 < -r'.2\/(-r.2 = -r'.2/\r.1<r'.1))=decide (rkOf M r<rkOf M r'):=by
      have q:=rk_lt (hM r (List.mem_of_getElem? b1)) (hM r' (List.mem_of_getElem? c1))
      by_cases z:rkOf M r<rkOf M r'
      · rw [decide_eq_true z];exact decide_eq_true (by have:=q.mp z;omega)
      · rw [decide_eq_false z];exact decide_eq_false fun w=>z (q.mpr (by omega))
     rw [this]
     (try dsimp only at hC)
     rw [er,er'] at hC
     exact hC
   · rintro ⟨⟨⟩,st'⟩ s' ⟨p,g,a,rfl,ar,fl⟩
     refine tail_wp (i:=rows.length) (PySem.W.kat_snds klen ar) ?_ h64 fl oD oK ne J fun s' K=>h p.toList s' ⟨fun i hi=>List.mem_range.mp (g.list.mem_iff.mp hi),asc_rows hM g a,g.list⟩ K
     rw [List.length_map,Array.length_toList,g.size];exact h64
theorem rest_wp {as:List Addr} {e1:Nat} {P:PySem.Fin->Shared->Prop} {E:Value->Shared->Prop} (hr:Room 2 A') (e0:∀H s,Inv X pins σ H s->Env0 X.prog X.w X.K X.mg X.base A' X.stack s H) (L:LamAt H f name qual params body scope) (hs:FnScope ["row"] ["row"] scope)
  (hb:∀(pm cd ct u:Value),bindArgs (PySem.W.kla_fn name qual params body scope [] pm cd ct) ⟨[u],[]⟩=pure [(("row":Str),u)]) (ck:chkE noTab keyCE ["row"] scope body=true) (tb:TB H)
  (hl:as.length=rows.length) (h64:rows.length<64) (nd:(rows.map (·.1)).Nodup) (oD:Own X pins D) (oK:Own X pins kS) (ne:D≠kS) (ha:∀(j:Nat) (a:Addr),as[j]?=some a->∃r:Int × Int,rows[j]?=some r/\H a=some (.tup [.int r.1,.int r.2]))
  (J:KJ X pins σ H D kS e1 rows 0 s) (h:∀p s',Plc rows p->KEnd X pins σ H D (p.map fun i=>(as.map Value.ref).getD i Value.none) s'->P (.done (.ret .none)) s') :
  wpAny (model X.prog X.w) A' (ksk_rest D (.ref f) false (as.map Value.ref).toArray e1 (.ref kS)) P E s:=by
 unfold ksk_rest
 refine wpAny_bind (wpAny_rule ?_)
 rw [List.forIn_toArray]
 refine wpAny_bind (ksk_fold (fun i s'=>KJ X pins σ H D kS e1 rows i s') (as.map Value.ref) 0 s J (fun j v s' hj J'=>?_) fun s' J'=>?_)
 · rw [List.getElem?_map] at hj
   cases ej:as[j]? with
   |none=>rw [ej] at hj;cases hj
   | some a =>
     rw [ej] at hj;cases hj
     obtain ⟨r,hr1,hr2⟩:=ha j a ej
     have hlt:=(List.getElem?_eq_some_iff.mp hr1).1
     rw [Nat.zero_add] at J'⊢
     exact wpAny_mono (kj_turn hr e0 L hs hb ck tb oD oK ne hr2 hr1 (by omega) J' (items:=(as.map Value.ref).toArray)) (fun _ _ z=>z) fun _ _ z=>z.elim
 · rw [Nat.zero_add,List.length_map,hl] at J'
   exact end_wp (vs:=as.map Value.ref) (by simpa using hl) h64 nd oD oK ne J' h
theorem tree_wp {as:List Addr} {n0:Nat} {P:PySem.Fin->Shared->Prop} {E:Value->Shared->Prop} (I:Inv X pins σ H s) (hr:Room 2 A') (e0:∀H s,Inv X pins σ H s->Env0 X.prog X.w X.K X.mg X.base A' X.stack s H) (L:LamAt H f name qual params body scope) (hs:FnScope ["row"] ["row"] scope)
  (hb:∀(pm cd ct u:Value),bindArgs (PySem.W.kla_fn name qual params body scope [] pm cd ct) ⟨[u],[]⟩=pure [(("row":Str),u)]) (ck:chkE noTab keyCE ["row"] scope body=true) (tb:TB H)
  (hl:as.length=rows.length) (h64:rows.length<64) (nd:(rows.map (·.1)).Nodup) (oD:Own X pins D) (d0:H D=none) (lD:LstAt s D (as.map Value.ref) n0) (ha:∀(j:Nat) (a:Addr),as[j]?=some a->∃r:Int × Int,rows[j]?=some r/\H a=some (.tup [.int r.1,.int r.2]))
  (h:∀p s',Plc rows p->KEnd X pins σ H D (p.map fun i=>(as.map Value.ref).getD i Value.none) s'->P (.done (.ret .none)) s'):wpAny (model X.prog X.w) A' (ksk_tree D (.ref f) false) P E s:=by
 obtain ⟨e1,l1⟩:=put_list (us:=[]) lD (fun _=>#[]) rfl
 have hD:D<s.heap.objs.size:=Heap.lt_size lD
 have I1:=inv_touch (h':=s.heap.update D (Obj.mapSeq fun _=>#[])) (g':=s.gens) (t':=s.toks) (d':=s.drawn) (ch:=[D]) I (fun b hb=>by rw [List.mem_singleton.mp hb];exact oD) (fun b hb=>by rw [List.mem_singleton.mp hb];exact d0) (fun b o hb q=>put_else (by simpa using hb) q) I.bare
 have kp:∀(o1 o2:Obj) b o,(s.heap.update D (Obj.mapSeq fun _=>#[])).get? b=some o->(((s.heap.update D (Obj.mapSeq fun _=>#[])).push o1).push o2).get? b=some o:=fun o1 o2 b o q=>Heap.get?_push_of_some _ (Heap.get?_push_of_some _ q)
 have sz:∀o1:Obj,((s.heap.update D (Obj.mapSeq fun _=>#[])).push o1).objs.size=s.heap.objs.size+1:=fun o1=>by rw [size_push',Heap.size_update]
 have hlen:(as.map Value.ref).length<64:=by rw [List.length_map,hl];exact h64
 unfold ksk_tree
 refine wpAny_bind (listItems_at lD rfl (wpAny_bind (listUpdate_at lD rfl (wpAny_bind (seqEpoch_at l1 rfl (wpAny_bind (wpAny_newTuple (wpAny_bind (wpAny_newList (wpAny_holding ?_) (Nat.zero_le _))) (by rw [sizeLine_eq];show (as.map Value.ref).length<=_;omega))))) (by rw [List.size_toArray,sizeLine_eq];omega) (Nat.zero_le _))))
 have I2:=inv_touch (h':=((s.heap.update D (Obj.mapSeq fun _=>#[])).push (seqObj "tuple" (as.map Value.ref).toArray 0)).push (seqObj "list" #[] 0)) (g':=s.gens) (t':=s.toks) (d':=s.drawn) (ch:=[]) I1 (fun b hb=>by cases hb) (fun b hb=>by cases hb) (fun b o _ q=>kp _ _ b o q) I.bare
 have oK:Own X pins ((s.heap.update D (Obj.mapSeq fun _=>#[])).push (seqObj "tuple" (as.map Value.ref).toArray 0)).objs.size:=by
  rw [sz]
  exact Own.fresh I (Nat.le_succ _)
 refine rest_wp (kS:=((s.heap.update D (Obj.mapSeq fun _=>#[])).push (seqObj "tuple" (as.map Value.ref).toArray 0)).objs.size) hr e0 L hs hb ck tb hl h64 nd oD oK (by rw [sz];exact Nat.ne_of_lt (Nat.lt_succ_of_lt hD)) ha ?_ h
 exact ⟨H,[],0,I2,Ext.refl _ _,d0,I.hok.fresh (by rw [sz];exact Nat.le_succ _),kp _ _ _ _ l1,Heap.get?_push_size _ rfl,rfl,fun j k hj=>by simp at hj⟩
end
end R
end
section
namespace R
open PySem PySem.Spec PyProof.Rows L2
variable [Mks]
section
variable {X:Cx} {pins:List (Addr × Obj)} {σ:L2.St} {H H':Hp} {s:Shared} {b:Addr} {o:HO}
theorem inv_track (I:Inv X pins σ H s) (ow:Own X pins b) (hn:H b=none) (ok:ObjOk X.prog X.w (upd H b o) s.heap b o):Inv X pins σ (upd H b o) s:=by
 have un:Un (frs X.stack) [b] H (upd H b o) s.heap s.heap:=⟨fun c q e _ _ _=>e,fun c q e _ _ _=>⟨q.slots,e⟩,fun c q e n hx=>by rw [upd_ne (by simpa using hx)];exact n,fun c q e _=>⟨q,e⟩,
  fun c xs q=>by rw [upd_ne (ne_of_none q hn)];exact q,fun c q u e=>by rw [upd_ne (ne_of_none e hn)];exact e,fun c ps q=>⟨#[],by rw [upd_ne (ne_of_none q hn),q];simp⟩⟩
 refine I.call' rfl un ?_ I.bare fun c hc=>?_
 · intro a u e
   by_cases z:a=b
   · subst z;rw [upd_same] at e;cases e;exact ok
   · rw [upd_ne z] at e
     exact (I.hok a u e).stay (fun _ _ _ q=>q) (fun c q=>by rw [upd_ne (ne_of_none q hn)];exact q) fun c xs q=>by rw [upd_ne (ne_of_none q hn)];exact q
 · rw [List.mem_singleton.mp hc]
   exact ⟨.inr ow.new,ow.loc,ow.cel,ow.pin⟩
theorem ext_new (hn:H b=none):Ext [] H [] (upd H b o):=
 ⟨List.prefix_refl _,Kp.new hn o,fun a u _ e=>⟨.inl (by rw [upd_ne (ne_of_none e hn)];exact e),by simp⟩⟩
theorem track_rows:∀(as:List Addr) (rows:List (Int × Int)) {H:Hp},Inv X pins σ H s->as.length=rows.length->as.Pairwise (· < ·)->(∀a∈as,Own X pins a/\H a=none)->
  (∀(j:Nat) (a:Addr),as[j]?=some a->∃(r:Int × Int) (t u:Tok),rows[j]?=some r/\s.heap.get? a=some {cls:=.type "tuple",data:=.seq #[.int r.1 t,.int r.2 u]})->
  ∃H',Inv X pins σ H' s/\Ext [] H [] H'/\(∀c,c∉as->H' c=H c)/\∀(j:Nat) (a:Addr),as[j]?=some a->∃r:Int × Int,rows[j]?=some r/\H' a=some (.tup [.int r.1,.int r.2])
 | [],rows,H,I,hl,_,_,_=>⟨H,I,Ext.refl _ _,fun c _=>rfl,fun j a e=>by simp at e⟩
 |a::as,[],H,I,hl,_,_,_=>by simp at hl
 | a :: as, r :: rows, H, I, hl, hp, ho, hq => by
   obtain ⟨oa,na⟩:=ho a List.mem_cons_self
   obtain ⟨r',t,u,e1,e2⟩:=hq 0 a rfl
   cases e1
   have hp':=List.pairwise_cons.mp hp
   have I1:Inv X pins σ (upd H a (.tup [.int r.1,.int r.2])) s:=inv_track I oa na ⟨by simp [sizeLine_eq],[.int r.1 t,.int r.2 u],.cons ⟨t,rfl⟩ (.cons ⟨u,rfl⟩ .nil),_,e2,rfl,_,rfl⟩
   obtain ⟨H',J,x,k,q⟩:=track_rows as rows I1 (by simpa using hl) hp'.2 (fun c hc=>⟨(ho c (List.mem_cons_of_mem _ hc)).1,by
    rw [upd_ne (Nat.ne_of_gt (hp'.1 c hc))];exact (ho c (List.mem_cons_of_mem _ hc)).2⟩) fun j c e=>hq (j+1) c (by simpa using e)
   refine ⟨H',J,(ext_new na).trans x,fun c hc=>?_,fun j c e=>?_⟩
   · rw [k c (fun z=>hc (List.mem_cons_of_mem _ z)),upd_ne (fun z=>hc (by rw [z];exact List.mem_cons_self))]
   · cases j with
     |zero=>cases e;exact ⟨r,rfl,x.kp.tups _ _ upd_same⟩
     |succ j=>exact q j c (by simpa using e)
end
noncomputable def dRows (rows:List (Int × Int)):List (Key × V):=rows.map fun r=>(.inl r.1,.int r.2)
theorem kv_rows:∀{rows:List (Int × Int)} {vs:List (Key × Value)},KV (dRows rows) vs->vs.length=rows.length/\∀(j:Nat) k v,vs[j]?=some (k,v)->∃(r:Int × Int) (t:Tok),rows[j]?=some r/\k=.inl r.1/\v=.int r.2 t
 | [], vs, h => by
   cases h
   exact ⟨rfl,fun j k v e=>by simp at e⟩
 | r :: rows, vs, h => by
   cases h with
   | cons h1 h2 =>
     rename_i q vs
     obtain ⟨a,c⟩:=kv_rows h2
     refine ⟨by simp [a],fun j k v e=>?_⟩
     cases j with
     | zero =>
       cases e
       obtain ⟨e1,t,e2⟩:=h1
       exact ⟨r,t,rfl,e1.symm,e2⟩
     |succ j=>exact c j k v (by simpa using e)
section
variable {X:Cx} {pins:List (Addr × Obj)} {σ:L2.St} {H:Hp} {s:Shared} {d r f:Addr} {rows:List (Int × Int)} {name qual:Str} {params:Arguments} {body:Expr} {scope:Scope}
structure Tld (X:Cx) (pins:List (Addr × Obj)) (σ:L2.St) (H:Hp) (rows:List (Int × Int)) (D:Addr) (s':Shared):Prop where
 ex:∃(H':Hp) (ts:List Addr),Inv X pins σ H' s'/\Ext [] H [] H'/\H D=none/\H' D=some (.lst (ts.map V.ref))/\ts.length=rows.length/\∀(j:Nat) (t:Addr),ts[j]?=some t->∃q:Int × Int,(tallyL rows)[j]?=some q/\H' t=some (.tup [.int q.1,.int q.2])
theorem sorted_wp {Q:Value->Shared->Prop} {E:Value->Shared->Prop} (I:Inv X pins σ H s) (hh:X.A.handled=none) (hr:Room 2 X.A.in1.in1) (L:LamAt H f name qual params body scope) (hs:FnScope ["row"] ["row"] scope)
  (hb:∀(pm cd ct u:Value),bindArgs (PySem.W.kla_fn name qual params body scope [] pm cd ct) ⟨[u],[]⟩=pure [(("row":Str),u)]) (ck:chkE noTab keyCE ["row"] scope body=true) (tb:TB H)
  (hd:H d=some (.dK (dRows rows))) (hv:s.heap.IsItemsView r d) (h64:rows.length<64) (q:∀D s',Tld X pins σ H rows D s'->Q (.ref D) s') :
  wpAny (model X.prog X.w) X.A (call (.builtin "sorted") [.ref r] [(Str.ofString "key",.ref f)]) Q E s:=by
 obtain ⟨_,hsys,vs,kv,od,es,ep,ho,hex,hda,hko,hpr,hnd⟩:=I.hok d _ hd
 obtain ⟨vlen,vat⟩:=kv_rows kv
 have hm:s.heap.DictAt (mixKind X.prog X.w) d vs ep:=⟨od,es,ho,hex,hda,hko,hpr,hnd⟩
 refine call_function_entry_kw kind_sorted plain_sorted entry_sorted (ksk_s1 _ _) ?_
 unfold Builtin.«sorted»
 refine wpAny_bind (m:=checkCount "sorted" 1 1 _) (wpAny_pure (wpAny_bind ?_))
 refine PySem.W.kdx_collect (A:=X.A.in1) (knd:=mixKind X.prog X.w) (kvs:=vs) (ep:=ep) hh hv hm (by rw [vlen,sizeLine_eq];omega) fun h1 tk as keep alen kg=>?_
 have I1:Inv X pins σ H {s with heap:=h1,toks:=tk}:=inv_touch (g':=s.gens) (t':=tk) (d':=s.drawn) (ch:=[]) I (fun b hb=>by cases hb) (fun b hb=>by cases hb) (fun b o _ e=>keep b o e) I.bare
 have pairs:∀(j:Nat) (a:Addr),as[j]?=some a->∃(p:Int × Int) (t u:Tok),rows[j]?=some p/\h1.get? a=some {cls:=.type "tuple",data:=.seq #[.int p.1 t,.int p.2 u]}:=fun j a ha=>by
  obtain ⟨key,k,x,e1,e2,e3⟩:=kg.pairs j a ha
  obtain ⟨p,t,p1,p2,p3⟩:=vat j k x e1
  subst p2 p3
  rw [mixKind_is] at e2
  rcases keyIs_shape e2 with ⟨i,u,z1,z2⟩|⟨x',u,z1,z2⟩
  · cases z1
    subst z2
    exact ⟨p,u,t,p1,e3⟩
  · cases z1
 obtain ⟨H1,I2,x1,out1,rowsAt⟩:=track_rows (s:={s with heap:=h1,toks:=tk}) as rows I1 (by rw [alen,vlen]) kg.rise (fun a ha=>⟨Own.fresh I (Nat.le_of_lt (kg.above a ha)),I.hok.fresh (Nat.le_of_lt (kg.above a ha))⟩) pairs
 have alen':as.length=rows.length:=by rw [alen,vlen]
 refine wpAny_bind (wpAny_newList ?_ (by rw [List.length_map,alen',sizeLine_eq];omega))
 have I3:Inv X pins σ H1 {s with heap:=h1.push (seqObj "list" (as.map Value.ref).toArray 0),toks:=tk}:=inv_touch (s:={s with heap:=h1,toks:=tk}) (g':=s.gens) (t':=tk) (d':=s.drawn) (ch:=[]) I2 (fun b hb=>by cases hb) (fun b hb=>by cases hb) (fun b o _ e=>Heap.get?_push_of_some _ e) I.bare
 have lD:LstAt {s with heap:=h1.push (seqObj "list" (as.map Value.ref).toArray 0),toks:=tk} h1.objs.size (as.map Value.ref) 0:=Heap.get?_push_size _ rfl
 have oD:Own X pins h1.objs.size:=Own.fresh I2 (Nat.le_refl _)
 have dN:H1 h1.objs.size=none:=I2.hok.fresh (Nat.le_refl _)
 have dN0:H h1.objs.size=none:=I1.hok.fresh (Nat.le_refl _)
 refine wpAny_bind (wpAny_holding (wpAny_call_entry_kw slot_list_sort ⟨_,lD,rfl⟩ entry_list_sort ?_ (ksk_l1 _ _)))
 refine tree_wp (D:=h1.objs.size) (as:=as) (rows:=rows) I3 hr (fun H s J=>J.env0.in1.in1) (L.up x1.kp) hs hb ck (x1.kp.tab tb) alen' h64 ?_ oD dN lD rowsAt fun p s' pl ke=>⟨_,rfl,?_⟩
 · have hn:(vs.map (·.1)).Nodup:=hnd
   have e:(vs.map (·.1))=(rows.map (·.1)).map Sum.inl:=by
    apply List.ext_getElem
    · simp [vlen]
    · intro i g1 g2
      have gi:i<vs.length:=by simpa using g1
      obtain ⟨p,t,p1,p2,p3⟩:=vat i vs[i].1 vs[i].2 (by rw [List.getElem?_eq_getElem gi])
      have gr:i<rows.length:=by omega
      rw [List.getElem?_eq_getElem gr] at p1
      cases p1
      simpa using p2
   rw [e] at hn
   rw [List.nodup_iff_pairwise_ne,List.pairwise_map] at hn
   exact hn.imp fun h z=>h (by rw [z])
 · refine wpAny_pure ⟨_,rfl,q _ s' ?_⟩
   obtain ⟨H2,e,J,x2,dN2,lst⟩:=ke.ex
   have eo:(p.map fun i=>(as.map Value.ref).getD i Value.none)=(p.map fun i=>as.getD i 0).map Value.ref:=by
    rw [List.map_map]
    refine List.map_congr_left fun i hi=>?_
    have:=pl.lt i hi
    have gi:i<as.length:=by omega
    simp [gi]
   rw [eo] at lst
   have plen:p.length=rows.length:=by rw [pl.perm.length_eq];simp
   have tup2:∀(j:Nat) (t:Addr),(p.map fun i=>as.getD i 0)[j]?=some t->∃q:Int × Int,(tallyL rows)[j]?=some q/\H2 t=some (.tup [.int q.1,.int q.2]):=fun j t hj=>by
    rw [List.getElem?_map] at hj
    cases ej:p[j]? with
    |none=>rw [ej] at hj;cases hj
    | some i =>
      rw [ej] at hj
      cases hj
      have hi:=pl.lt i (List.mem_of_getElem? ej)
      obtain ⟨w,w1,w2⟩:=rowsAt i (as.getD i 0) (getD_mem 0 (by omega))
      refine ⟨w,?_,x2.kp.tups _ _ w2⟩
      rw [<-pl.eq,List.getElem?_map,ej]
      show some (rows.getD i (0,0))=some w
      rw [List.getD_eq_getElem?_getD,w1]
      rfl
   have dne:∀t o,H2 t=some o->t≠h1.objs.size:=fun t o h=>ne_of_none h dN2
   refine ⟨upd H2 h1.objs.size (.lst ((p.map fun i=>as.getD i 0).map V.ref)),p.map fun i=>as.getD i 0,inv_track J oD dN2 ⟨by simp [plen,sizeLine_eq];omega,_,e,?_,lst⟩,(x1.trans x2).trans (ext_new dN2),dN0,upd_same,by simp [plen],fun j t hj=>?_⟩
   · generalize (p.map fun i=>as.getD i 0)=ts
     induction ts with
     |nil=>exact .nil
     |cons t ts ih=>exact .cons rfl ih
   · obtain ⟨w,w1,w2⟩:=tup2 j t hj
     exact ⟨w,w1,by rw [upd_ne (dne t _ w2)];exact w2⟩
end
end R
end
section
namespace R
open PySem PySem.Spec PyProof.Rows L2
variable [Mks]
noncomputable def BM (mg:Str->Option Value) (base:Heap):Prop:=∃(bm:Addr) (o:Obj),mg "__builtins__"=some (.ref bm)/\bm≠builtinsNs/\bm≠mainGlobals/\base.get? bm=some o/\o.cls=.type "module"/\o.dict=some builtinsNs/\o.data=.plain
structure StepT (P:Addr) (H H':Hp):Prop where
 rest:∀a o,a≠P->H a=some o->H' a=some o
 tab:∀ps,H P=some (.tbl ps)->∃more,H' P=some (.tbl (ps++more))
theorem codeAmong_old {pos:Pos} {l:List Value} {v a b c:Value} (h:TriplesOk l) (e:codeAmong pos (l++[a,b,c])=some v):codeAmong pos l=some v\/v=c:=by
 induction l using codeAmong.induct (pos:=pos) with
 | case1 line _ col _ c' rest cond =>
   simp only [List.cons_append,codeAmong,cond,if_true] at e⊢
   exact .inl e
 | case2 line _ col _ c' rest cond ih =>
   simp only [List.cons_append,codeAmong,cond,if_false] at e⊢
   exact ih (by simpa [TriplesOk] using h) e
 | case3 l hno =>
   cases l with
   | nil =>
     right
     unfold codeAmong at e
     split at e
     · rename_i h;simp at h;obtain ⟨_,_,rfl,rfl⟩:=h
       split at e
       · cases e;rfl
       · simp [codeAmong] at e
     · cases e
   | cons x l =>
     exfalso
     unfold TriplesOk at h
     split at h
     · rename_i h0;cases h0
     · rename_i h0;cases h0;exact hno _ _ _ _ _ _ rfl
     · exact h
section
variable {X:Cx} {pins:List (Addr × Obj)} {σ:L2.St} {H:Hp} {s:Shared} {c P:Addr} {params:Arguments} {body:Expr} {scope:Scope} {lpos:Pos}
theorem BM.at_ (b:BM X.mg X.base) (I:Inv X pins σ H s) {P:Addr} {o:HO} (hP:H P=some o):s.heap.BuiltinsAt X.mg P:=by
 obtain ⟨bm,ob,h1,h2,h3,h4,h5⟩:=b
 obtain ⟨k1,k2⟩:=I.bs bm ob h4
 exact ⟨bm,ob,h1,h2,h3,fun z=>(by rw [z,hP] at k2;cases k2),k1,h5⟩
theorem lam_make {Q:Value->Shared->Prop} {E:Value->Shared->Prop} (I:Inv X pins σ H s) (bm:BM X.mg X.base) (hcode:X.env.code=.ref c) (hC:PySem.W.codeHdIn X.K c P=true) (tb:TabIn H P (X.env.qual ++ "<lambda>"))
  (hdef:defaultsOf params X.env=([],[])) (hcl:closureFor scope X.env=pure [])
  (q:∀f H' s',Inv X pins σ H' s'->LamAt H' f "<lambda>" (X.env.qual ++ "<lambda>") params body scope->TabIn H' P (X.env.qual ++ "<lambda>")->StepT P H H'->Q (.ref f) s') :
  wpAny (model X.prog X.w) X.A (eval (.Lambda params body scope lpos) X.env) Q E s:=by
 obtain ⟨ps,h1,h2,h3⟩:=tb
 have C:=PySem.W.codeHd_of_K I.kIn hC
 have hP:s.heap.get? P=some (PySem.W.tabObj ps):=I.hok P _ h1
 have hb:=bm.at_ I h1
 have hg:s.heap.Ns mainGlobals X.mg:=I.mod.glob.keeps I.bk
 have hPl:P<s.heap.objs.size:=Heap.lt_size hP
 refine PySem.W.kla_eval hdef ?_
 cases hf:codeAmong lpos ps.toList with
 | some cv =>
   obtain ⟨c',oc,vs,t,rfl,a2,a3,a4⟩:=h3 lpos cv hf
   refine PySem.W.kla_makeFunctionHit hcl I.ok.glob hg hcode C hP h2 hf hb fun ctv h' tk hk hsz=>?_
   have hn:H h'.objs.size=none:=I.hok.fresh hsz
   have ow:Own X pins h'.objs.size:=Own.fresh I hsz
   have I1:Inv X pins σ H {s with heap:=h'.push (PySem.W.kla_obj "<lambda>" (X.env.qual ++ "<lambda>") params body scope [] ((X.mg "__name__").getD .none) c' ctv),toks:=tk}:=
    inv_touch (g':=s.gens) (t':=tk) (d':=s.drawn) (ch:=[]) I (fun b hb=>by cases hb) (fun b hb=>by cases hb) (fun b o _ e=>Heap.get?_push_of_some _ (hk b o e)) I.bare
   have I2:=inv_track (o:=.frz (PySem.W.kla_obj "<lambda>" (X.env.qual ++ "<lambda>") params body scope [] ((X.mg "__name__").getD .none) c' ctv) (.own 0)) I1 ow hn ⟨Heap.get?_push_size _ rfl,_,Heap.get?_push_size _ rfl⟩
   have st:∀a o,H a=some o->upd H h'.objs.size (.frz (PySem.W.kla_obj "<lambda>" (X.env.qual ++ "<lambda>") params body scope [] ((X.mg "__name__").getD .none) c' ctv) (.own 0)) a=some o:=fun a o e=>by rw [upd_ne (ne_of_none e hn)];exact e
   refine q _ _ _ I2 ⟨_,ctv,c',oc,vs,t,upd_same,st _ _ a2,a3,a4⟩ ?_ ⟨fun a o _ e=>st a o e,fun ps' e=>⟨#[],by rw [st _ _ e];simp⟩⟩
   exact TabIn.up ⟨ps,h1,h2,h3⟩ (by rw [st _ _ h1,h1]) fun b o u e=>st _ _ e
 | none =>
   have hgP:mainGlobals≠P:=fun z=>by
    obtain ⟨o,es,ep,e,hd,_⟩:=hg
    rw [z,hP] at e;cases e;cases hd
   refine PySem.W.kla_makeFunction hcl I.ok.glob hg hcode C hP h2 hf hgP hb fun c' ctv h' tk hx hge hlt hrec htb=>?_
   obtain ⟨c2,oc,vs,t,e2,hoc,hd,hv⟩:=hrec
   cases e2
   generalize hfo:PySem.W.kla_obj "<lambda>" (X.env.qual ++ "<lambda>") params body scope [] ((X.mg "__name__").getD .none) c' ctv=fo
   have hfr:(h'.push fo).get? h'.objs.size=some fo:=by rw [<-hfo];exact Heap.get?_push_size _ rfl
   have hfn:H h'.objs.size=none:=I.hok.fresh (Nat.le_trans hge (Nat.le_of_lt hlt))
   have hcn:H c'=none:=I.hok.fresh hge
   have nPc:P≠c':=Nat.ne_of_lt (Nat.lt_of_lt_of_le hPl hge)
   have nPf:P≠h'.objs.size:=Nat.ne_of_lt (Nat.lt_trans (Nat.lt_of_lt_of_le hPl hge) hlt)
   have ncf:c'≠h'.objs.size:=Nat.ne_of_lt hlt
   have st:∀a o,a≠P->H a=some o->upd (upd (upd H P (.tbl (ps ++ #[rawInt lpos.line,rawInt lpos.col,.ref c']))) c' (.frz oc (.own 0))) h'.objs.size (.frz fo (.own 0)) a=some o:=fun a o n e=>by
    rw [upd_ne (ne_of_none e hfn),upd_ne (ne_of_none e hcn),upd_ne n];exact e
   have atP:upd (upd (upd H P (.tbl (ps ++ #[rawInt lpos.line,rawInt lpos.col,.ref c']))) c' (.frz oc (.own 0))) h'.objs.size (.frz fo (.own 0)) P=some (.tbl (ps ++ #[rawInt lpos.line,rawInt lpos.col,.ref c'])):=by
    rw [upd_ne nPf,upd_ne nPc,upd_same]
   have atC:upd (upd (upd H P (.tbl (ps ++ #[rawInt lpos.line,rawInt lpos.col,.ref c']))) c' (.frz oc (.own 0))) h'.objs.size (.frz fo (.own 0)) c'=some (.frz oc (.own 0)):=by
    rw [upd_ne ncf,upd_same]
   have hno:∀a,H a=none->a≠P:=fun a e z=>by rw [z,h1] at e;cases e
   have keep:∀b o,b≠P->s.heap.get? b=some o->(h'.push fo).get? b=some o:=fun b o n e=>Heap.get?_push_of_some _ (hx b o n e)
   have inv:Inv X pins σ (upd (upd (upd H P (.tbl (ps ++ #[rawInt lpos.line,rawInt lpos.col,.ref c']))) c' (.frz oc (.own 0))) h'.objs.size (.frz fo (.own 0))) {s with heap:=h'.push fo,toks:=tk}:=by
    refine I.call (g':=s.gens) (t':=tk) (d':=s.drawn) (ch:=[]) ⟨fun b o e n _ _=>keep b o (hno b n) e,fun b o e n _ _=>⟨o.slots,keep b o (hno b n) e⟩,fun b o e n _=>?_,fun b o e _=>?_,fun b xs e=>?_,fun b o u e=>?_,fun b ps' e=>?_⟩ ?_ I.bare (fun b hb=>by cases hb)
    · have hb:=Heap.lt_size e
      rw [upd_ne (Nat.ne_of_lt (Nat.lt_trans (Nat.lt_of_lt_of_le hb hge) hlt)),upd_ne (Nat.ne_of_lt (Nat.lt_of_lt_of_le hb hge)),upd_ne (hno b n)];exact n
    · by_cases z:b=P
      · subst z;exact ⟨_,Heap.get?_push_of_some _ htb⟩
      · exact ⟨o,keep b o z e⟩
    · exact st b _ (fun z=>by rw [z,h1] at e;cases e) e
    · exact st b _ (fun z=>by rw [z,h1] at e;cases e) e
    · by_cases z:b=P
      · subst z;rw [h1] at e;cases e;exact ⟨_,atP⟩
      · exact ⟨#[],by rw [st b _ z e];simp⟩
    · intro a u e
      by_cases zf:a=h'.objs.size
      · subst zf;rw [upd_same] at e;cases e;exact ⟨hfr,_,hfr⟩
      · rw [upd_ne zf] at e
        by_cases zc:a=c'
        · subst zc;rw [upd_same] at e;cases e;exact ⟨Heap.get?_push_of_some _ hoc,_,Heap.get?_push_of_some _ hoc⟩
        · rw [upd_ne zc] at e
          by_cases zp:a=P
          · subst zp;rw [upd_same] at e;cases e;exact Heap.get?_push_of_some _ htb
          · rw [upd_ne zp] at e
            refine (I.hok a u e).stay (fun b o hb e'=>keep b o ?_ e') (fun b e'=>st b _ (fun z=>by rw [z,h1] at e';cases e') e') fun b xs e'=>st b _ (fun z=>by rw [z,h1] at e';cases e') e'
            rcases hb with rfl|hb
            · exact zp
            · intro z;rw [z,h1] at hb;cases hb
   refine q _ _ _ inv ⟨_,ctv,c',oc,vs,t,by rw [upd_same,<-hfo],atC,hd,hv⟩ ?_ ⟨fun a o n e=>st a o n e,fun ps' e=>by rw [h1] at e;cases e;exact ⟨_,atP⟩⟩
   refine ⟨_,atP,?_,fun pos v e=>?_⟩
   · have:=TriplesOk_snoc lpos.line lpos.col (.ref c') ps.toList h2
     simpa using this
   · have e':codeAmong pos (ps.toList++[rawInt lpos.line,rawInt lpos.col,.ref c'])=some v:=by simpa using e
     rcases codeAmong_old h2 e' with z|z
     · obtain ⟨d,od,ws,u,a1,a2,a3⟩:=h3 pos v z
       exact ⟨d,od,ws,u,a1,st _ _ (fun y=>by rw [y,h1] at a2;cases a2) a2,a3⟩
     · exact ⟨c',oc,vs,t,z,atC,hd,hv⟩
end
end R
end
section
namespace R
open PySem PySem.Spec PyProof.Rows L2
variable [Mks]
structure M0 (X:Cx) (o:Expr) (m:Str) (apos cpos:Pos):Prop where
 base:attributeBase o m X.env (eval o X.env)=eval o X.env
 few:((backTo cpos (starEach [] X.env)).all (fun x=>!x.1)&&(backToKw cpos (keywordEach [] X.env)).all (fun x=>x.1.isSome)&&decide (([]:List Expr).length+([]:List Keyword).length+(if ([]:List Keyword).isEmpty then 0 else 1)<30))=true
 line:(apos.endLine == cpos.line)=true
noncomputable abbrev viewObj (d:Addr):Obj:={cls:=.type "dict_items",data:=.fields #[.ref d]}
noncomputable def tItems (td:TE):TE:=fun σ H Q=>td σ H fun x H1=>∃d rows,x=.ref d/\H1 d=some (.dK (dRows rows))/\∀v,H1 v=none->Q (.ref v) (upd H1 v (.frz (viewObj d) (.own 0)))
theorem pe_items {X:Cx} {o:Expr} {apos cpos:Pos} {td:TE} (ho:PE X o td) (m:M0 X o "items" apos cpos):PE X (.Call (.Attribute o "items" apos) [] [] cpos) (tItems td):=by
 intro pins s σ H Q I h
 refine wpAny_Call_method m.base m.few m.line PySem.F.plainAttrs_dict PySem.F.slot_dict_items PySem.F.type_dict_items (thn (ho pins s σ H _ I h) fun u s1 ⟨x,H1,I1,rx,d,rows,ex,hd,q1⟩=>?_)
 subst ex
 obtain rfl:u=Value.ref d:=rx
 obtain ⟨t1,t2,t3⟩:=isD_at I1 (.inl ⟨_,.inl hd⟩)
 obtain ⟨_,_,vs,_,hD⟩:=I1.hok d _ hd
 refine ⟨t1,t2,?_⟩
 refine Calls.callWith_builtin rfl (PyProof.Rows.evalArgs_none ?_)
 refine PySem.call_meetsIn PySem.F.slot_dict_items hD.typeIs PySem.F.entry_dict_items (PySem.F.args_dict_items_1 _) (meets_dict_items (mixKind X.prog X.w) d t3) ⟨⟨vs,hD⟩,?_⟩
 have hn:H1 s1.heap.objs.size=none:=I1.hok.fresh (Nat.le_refl _)
 have I2:Inv X pins σ H1 {s1 with heap:=s1.heap.push (viewObj d)}:=inv_touch (g':=s1.gens) (t':=s1.toks) (d':=s1.drawn) (ch:=[]) I1 (fun b hb=>by cases hb) (fun b hb=>by cases hb) (fun b o _ e=>Heap.get?_push_of_some _ e) I1.bare
 have I3:=inv_track (o:=.frz (viewObj d) (.own 0)) I2 (Own.fresh I1 (Nat.le_refl _)) hn ⟨Heap.get?_push_size _ rfl,_,Heap.get?_push_size _ rfl⟩
 exact ⟨.ref s1.heap.objs.size,_,I3,rfl,q1 _ hn⟩
noncomputable def TallyK (Q:VK) (w:V) (H1:Hp):Prop:=∃v d rows,w=.ref v/\H1 v=some (.frz (viewObj d) (.own 0))/\H1 d=some (.dK (dRows rows))/\rows.length<64/\TB H1/\
 ∀(D:Addr) (H2:Hp) (ts:List Addr),Ext [] H1 [] H2->H1 D=none->H2 D=some (.lst (ts.map V.ref))->ts.length=rows.length->
  (∀(j:Nat) (t:Addr),ts[j]?=some t->∃r:Int × Int,(tallyL rows)[j]?=some r/\H2 t=some (.tup [.int r.1,.int r.2]))->Q (.ref D) H2
noncomputable def tTally (td:TE):TE:=fun σ H Q=>tItems td σ H (TallyK Q)
noncomputable def oneK (k:VK) (vs:List V) (H:Hp):Prop:=match vs with | [w]=>k w H|_=>False
theorem oneK_inv {k:VK} {vs:List V} {H:Hp} (h:oneK k vs H):∃w,vs=[w]/\k w H:=by
 unfold oneK at h
 split at h
 · exact ⟨_,rfl,h⟩
 · exact h.elim
theorem StepT.ext {P:Addr} {H H':Hp} {ps:Array Value} (st:StepT P H H') (hP:H P=some (.tbl ps)) (tb:TB H'):Ext [] H [] H':=by
 have nP:∀a o,H a=some o->(∀ps,o≠.tbl ps)->a≠P:=fun a o e n z=>by rw [z,hP] at e;cases e;exact n _ rfl
 refine ⟨List.prefix_refl _,⟨fun a xs e=>st.rest a _ (nP a _ e (by simp)) e,fun a o u e=>st.rest a _ (nP a _ e (by simp)) e,fun _=>tb⟩,fun a o _ e=>⟨?_,by simp⟩⟩
 by_cases z:a=P
 · subst z
   obtain ⟨more,e'⟩:=st.tab ps hP
   rw [hP] at e;cases e
   exact .inr ⟨⟨_,rfl⟩,_,e'⟩
 · exact .inl (st.rest a o z e)
theorem tally_end {X:Cx} {pins:List (Addr × Obj)} {σ:L2.St} {H1 H2:Hp} {s2:Shared} {f v d:Addr} {q:Str} {params:Arguments} {body:Expr} {scope:Scope} {rows:List (Int × Int)} {Q:VK} (I2:Inv X pins σ H2 s2) (hu:Room 2 X.A.in1.in1) (hs:FnScope ["row"] ["row"] scope)
  (hb:∀(pm cd ct u:Value),bindArgs (PySem.W.kla_fn "<lambda>" q params body scope [] pm cd ct) ⟨[u],[]⟩=pure [(("row":Str),u)]) (ck:chkE noTab keyCE ["row"] scope body=true) (L:LamAt H2 f "<lambda>" q params body scope) (tb:TB H1) (x2:Ext [] H1 [] H2)
  (hv:H1 v=some (.frz (viewObj d) (.own 0))) (hd:H1 d=some (.dK (dRows rows))) (h64:rows.length<64)
  (q1:∀(D:Addr) (H2:Hp) (ts:List Addr),Ext [] H1 [] H2->H1 D=none->H2 D=some (.lst (ts.map V.ref))->ts.length=rows.length->(∀(j:Nat) (t:Addr),ts[j]?=some t->∃r:Int × Int,(tallyL rows)[j]?=some r/\H2 t=some (.tup [.int r.1,.int r.2]))->Q (.ref D) H2) :
  wpAny (model X.prog X.w) X.A (call (.builtin "sorted") [.ref v] [(Str.ofString "key",.ref f)]) (EP X pins σ Q) X.xe s2:=by
 have hv2:=x2.keep (by simp) hv (by simp)
 have hd2:=x2.keep (by simp) hd (by simp)
 have vw:s2.heap.IsItemsView v d:=⟨_,(I2.hok v _ hv2).1,rfl,rfl⟩
 refine sorted_wp I2 hu.hd hu L hs hb ck (x2.kp.tab tb) hd2 vw h64 fun D s3 tl=>?_
 obtain ⟨H3,ts,I3,x3,dn,dl,tl,tt⟩:=tl.ex
 refine ⟨.ref D,H3,I3,rfl,q1 D H3 ts (x2.trans x3) ?_ dl tl tt⟩
 cases e:H1 D with
 |none=>rfl
 | some o =>
   exfalso
   have:=(x2.rest D o (by simp) e).1
   rw [dn] at this
   rcases this with z|⟨_,_,z⟩<;>cases z
noncomputable def tLam (q:Str) (params:Arguments) (body:Expr) (scope:Scope):TE:=fun σ H Q=>TB H/\∀f H',LamAt H' f "<lambda>" q params body scope->Ext [] H [] H'->Q (.ref f) H'
section
variable {X:Cx} {o:Expr} {p apos cpos kpos lpos pos:Pos} {td:TE} {c P:Addr} {params:Arguments} {body:Expr} {scope:Scope}
structure Maker (X:Cx) (c P:Addr):Prop where
 bm:BM X.mg X.base
 code:X.env.code=.ref c
 hd:PySem.W.codeHdIn X.K c P=true
 mem:(P,X.env.qual ++ "<lambda>")∈Mks.ts
 one:∀p∈Mks.ts,p.1=P->p.2=X.env.qual ++ "<lambda>"
theorem pe_lam (mk:Maker X c P) (hdef:defaultsOf params X.env=([],[])) (hcl:closureFor scope X.env=pure []):PE X (.Lambda params body scope lpos) (tLam (X.env.qual ++ "<lambda>") params body scope):=by
 intro pins s σ H Q I h
 obtain ⟨ps,hP,_⟩:=id (h.1 _ mk.mem)
 refine lam_make I mk.bm mk.code mk.hd (h.1 _ mk.mem) hdef hcl fun f H' s' J L T S=>⟨.ref f,H',J,rfl,h.2 f H' L (S.ext hP fun p hp=>?_)⟩
 by_cases z:p.1=P
 · rw [mk.one p hp z,z];exact T
 · obtain ⟨qs,hq,_⟩:=id (h.1 p hp)
   exact (h.1 p hp).up ((S.rest _ _ z hq).trans hq.symm) fun b o u e=>S.rest b _ (fun y=>by rw [y] at e;rw [hP] at e;cases e) e
theorem pe_tally (ho:PE X o td) (m:M0 X o "items" apos cpos) (hg:Gl X "sorted") (hm:X.mg "sorted"=none) (hu:Room 2 X.A.in1.in1) (mk:Maker X c P) (hdef:defaultsOf params X.env=([],[])) (hcl:closureFor scope X.env=pure []) (hs:FnScope ["row"] ["row"] scope)
  (hb:∀(pm cd ct u:Value),bindArgs (PySem.W.kla_fn "<lambda>" (X.env.qual ++ "<lambda>") params body scope [] pm cd ct) ⟨[u],[]⟩=pure [(("row":Str),u)]) (ck:chkE noTab keyCE ["row"] scope body=true) :
  PE X (.Call (.Name "sorted" p) [.Call (.Attribute o "items" apos) [] [] cpos] [⟨some "key",.Lambda params body scope lpos,kpos⟩] pos) (tTally td):=by
 intro pins s σ H Q I h
 refine wpAny_Call_Name_kw (ld_blt I hg hm (by rfl:bootBuiltins "sorted"=some (.builtin "sorted")) ?_ (by decide) (by decide))
 have ha:PA X [.Call (.Attribute o "items" apos) [] [] cpos] (tCons (tItems td) tNil):=pa_cons (pe_items ho m) pa_nil
 have hk:PK X [⟨some "key",.Lambda params body scope lpos,kpos⟩] (tCons (tLam (X.env.qual ++ "<lambda>") params body scope) tNil):=pk_cons (pe_lam mk hdef hcl) pk_nil
 refine PyProof.Rows.callWith_builtin_kwB rfl rfl (PyProof.Rows.evalArgs_kw2 rfl (thn (ha pos pins s σ H (oneK (TallyK Q)) I h) fun us s1 ⟨vs,H1,I1,r1,k1⟩=>?_))
 obtain ⟨w,rfl,v,d,rows,ew,hv,hd,h64,tb,q1⟩:=oneK_inv k1
 subst ew
 obtain ⟨u,rfl,ru⟩:=Vals.one r1
 obtain rfl:u=Value.ref v:=ru
 refine thn (hk pos pins s1 σ H1 (oneK fun w2 H2=>∃f,w2=.ref f/\LamAt H2 f "<lambda>" (X.env.qual ++ "<lambda>") params body scope/\Ext [] H1 [] H2) I1 ⟨tb,fun f H2 L S=>⟨f,rfl,L,S⟩⟩) fun ws s2 ⟨zs,H2,I2,r2,k2⟩=>?_
 obtain ⟨w2,rfl,f,ef,L,st⟩:=oneK_inv k2
 subst ef
 obtain ⟨u2,rfl,ru2⟩:=Vals.one r2
 obtain rfl:u2=Value.ref f:=ru2
 exact tally_end I2 hu hs hb ck L tb st hv hd h64 q1
end
end R
end
section
namespace R
open PySem PySem.Spec PyProof.Rows L2
variable [Mks]
noncomputable def H0 (K:PySem.W.Frag) (a:Addr) (o:Obj) (xs:List V):Hp:=fun b=>if b∈Mks.ts.map (·.1) then some (.tbl #[]) else if b=a then (match K.lookup a with|some _=>none|none=>some (.frz o (.lst xs))) else none
theorem law_callT {P:Program} {w:World} {K:PySem.W.Frag} {mg mb:Str->Option Value} {k:Nat} {fa a:Addr} {fd:FuncData} {x:Str} {sp:Sp} {s₁:Shared} {vs:List Value} {ns:List Int}
  (KX:K.In s₁.heap) (hns:s₁.heap.Ns mainGlobals mg) (hb:s₁.heap.Ns builtinsNs mb) (hbb:∀x:Str,x≠"__name__"->mb x=bootBuiltins x) (hlim:s₁.heap.NoLimit) (hg:s₁.gens = #[]) (bm:BM mg s₁.heap)
  (ha:s₁.heap.get? a=some {cls:=.type "list",data:=.seq vs.toArray}) (hi:IntsAre vs ns) (hl:ns.length<=sizeLine) (hr:Room k callerA)
  (tabs:∀p∈Mks.ts,s₁.heap.get? p.1=some (PySem.W.tabObj #[])/\K.lookup p.1=none/\isCodeTable s₁.heap p.1)
  (F:∀base:Heap,K.In base->base.Ns mainGlobals mg->BM mg base->FnOk P w K mg base CX0 k fa fd [x] sp) (hbind:∀(s:Shared) (u:Value),BindsTo s fd ⟨[u],[]⟩ [(x,u)])
  (hsp:∀H:Hp,FixL K H a (ns.map V.int)->TB H->sp [.ref a] H (fun v _=>v=.bl true) fun _ _ _=>False) :
  codeAny (model P w) callerA (.call (.ref fa) ⟨[.ref a],[]⟩) (fun r s'=>r=.ok (.ret (.bool true))/\OldK s₁.heap s'.heap/\s'.os=s₁.os/\AllBare s'.gens) s₁:=by
 have rv:=vals_ints hi
 have lenV:=hi.length
 generalize hH:H0 K a {cls:=.type "list",data:=.seq vs.toArray} (ns.map V.int)=H
 have cs:∀b,H b=none\/((∃p∈Mks.ts,p.1=b)/\H b=some (.tbl #[]))\/(b=a/\K.lookup a=none/\H b=some (.frz {cls:=.type "list",data:=.seq vs.toArray} (.lst (ns.map V.int)))):=fun b=>by
  rw [<-hH]
  unfold H0
  by_cases h1:b∈Mks.ts.map (·.1)
  · obtain ⟨p,hp,e⟩:=List.mem_map.mp h1
    exact .inr (.inl ⟨⟨p,hp,e⟩,if_pos h1⟩)
  · rw [if_neg h1]
    by_cases h2:b=a
    · rw [if_pos h2]
      cases e:K.lookup a with
      |some o=>exact .inl rfl
      |none=>exact .inr (.inr ⟨h2,rfl,rfl⟩)
    · rw [if_neg h2];exact .inl rfl
 have tb:TB H:=fun p hp=>⟨#[],by rw [<-hH];unfold H0;exact if_pos (List.mem_map.mpr ⟨p,hp,rfl⟩),trivial,fun pos v e=>by simp [codeAmong] at e⟩
 have na:a∉Mks.ts.map (·.1):=fun z=>by
  obtain ⟨p,hp,e⟩:=List.mem_map.mp z
  have:=(tabs p hp).1
  rw [e,ha] at this;cases this
 have hx:FixL K H a (ns.map V.int):=by
  cases e:K.lookup a with
  | some o =>
    have e':=KX a o e
    rw [ha] at e';cases e'
    exact .inr ⟨_,vs.toArray,_,e,rfl,rfl,rfl,by rw [List.size_toArray,lenV];exact hl,by simpa using rv⟩
  | none =>
    refine .inl ⟨{cls:=.type "list",data:=.seq vs.toArray},?_⟩
    rw [<-hH];unfold H0
    rw [if_neg na,if_pos rfl,e]
 have hok:HOk P w H s₁.heap:=fun b u e=>by
  rcases cs b with z|⟨⟨p,hp,rfl⟩,z⟩|⟨rfl,_,z⟩
  · rw [z] at e;cases e
  · rw [z] at e;cases e;exact (tabs p hp).1
  · rw [z] at e;cases e;exact ⟨ha,by rw [List.length_map];exact hl,vs,_,rv,ha⟩
 have noD:∀{b:Addr} {o:Obj},s₁.heap.get? b=some o->(∀xs n,o.data≠.seq xs n)->(∀fs,o.data≠.fields fs)->H b=none:=fun {b o} e n1 n2=>by
  rcases cs b with z|⟨⟨p,hp,rfl⟩,_⟩|⟨rfl,_,_⟩
  · exact z
  · rw [(tabs p hp).1] at e;cases e;exact absurd rfl (n2 _)
  · rw [ha] at e;cases e;exact absurd rfl (n1 _ _)
 have base_of:∀{b:Addr} {o:Obj},s₁.heap.get? b=some o->H b=none->(hidT s₁.heap H).get? b=some o:=fun e n=>hidT_get e n
 have nsK:∀{b:Addr} {m:Str->Option Value},s₁.heap.Ns b m->(hidT s₁.heap H).Ns b m:=fun {b m} ⟨o,es,ep,e,d,r⟩=>⟨o,es,ep,base_of e (noD e (fun _ _ z=>by rw [d] at z;cases z) fun _ z=>by rw [d] at z;cases z),d,r⟩
 have hKb:K.In (hidT s₁.heap H):=fun b o e=>base_of (KX b o e) (by
  rcases cs b with z|⟨⟨p,hp,rfl⟩,_⟩|⟨rfl,z,_⟩
  · exact z
  · rw [(tabs p hp).2.1] at e;cases e
  · rw [z] at e;cases e)
 have hbm:BM mg (hidT s₁.heap H):=by
  obtain ⟨m,o,h1,h2,h3,h4,h5,h6,h7⟩:=bm
  exact ⟨m,o,h1,h2,h3,base_of h4 (noD h4 (fun _ _ z=>by rw [h7] at z;cases z) fun _ z=>by rw [h7] at z;cases z),h5,h6,h7⟩
 have hM:Mod K mg (hidT s₁.heap H):=⟨hKb,nsK hns,⟨mb,nsK hb,hbb⟩,let ⟨mc,h1,h2⟩:=hlim;⟨mc,nsK h1,h2⟩⟩
 have e0:Env0 P w K mg (hidT s₁.heap H) callerA [] s₁ H:=⟨rfl,hM,fun b o e=>of_hidT e,Nat.le_of_eq (hidT_size _ _),trivial,fun b hb=>absurd (show b∈([]:List Addr) from hb) (by simp),hok,.of_eq hg⟩
 refine codeAny_mono ((F _ hKb (nsK hns) hbm).run callerA [] s₁ H ⟨[.ref a],[]⟩ [.ref a] [.ref a] _ _ hr e0 (hbind s₁ (.ref a)) (.cons rfl .nil) (hsp H hx tb)) fun r s' h=>?_
 cases r with
 |error e=>exact False.elim h
 | ok fl =>
   cases fl with
   | ret u =>
     obtain ⟨v,H',os,bare,un,hok',r',q⟩:=h
     have q':v=.bl true:=q
     subst q'
     obtain rfl:u=Value.bool true:=r'
     have old:∀b o,s₁.heap.get? b=some o->asItWas s₁.heap s'.heap b o/\∃o',s'.heap.get? b=some o':=fun b o e=>by
      rcases cs b with z|⟨⟨p,hp,rfl⟩,z⟩|⟨rfl,_,z⟩
      · have k:=un.keep b o e z (by intro y;exact absurd (show b∈([]:List Addr) from y) (by simp)) (by simp)
        exact ⟨.inl k,_,k⟩
      · obtain ⟨more,z2⟩:=un.tbls _ _ z
        have k:s'.heap.get? p.1=some (PySem.W.tabObj (#[]++more)):=hok' _ _ z2
        have e':=(tabs p hp).1
        rw [e'] at e;cases e
        exact ⟨.inr (.inl ⟨(tabs p hp).2.2,rfl,#[],more,rfl,k⟩),_,k⟩
      · have z2:=un.frzs _ _ _ z
        have k:=(hok' _ _ z2).1
        rw [ha] at e;cases e
        exact ⟨.inl k,_,k⟩
     exact ⟨rfl,⟨fun b o e=>(old b o e).1,fun b o e=>(old b o e).2⟩,os,bare⟩
   |_=>exact False.elim h
end R
end
section
namespace R
open PySem PySem.Spec PyProof.Rows L2
variable [Mks]
theorem walk_ofT {l:PySem.W.OpenLaw} {n k:Nat} {q:Program} {loose:List Str} {XP:(Str->Option Value)->Heap->Prop} {YP:World->Heap->Prop} {d:DefRec} {K:Params->PySem.W.Frag} {sp:World->Sp} {x:Str}
  (hn:l.most=some n) (hn2:n<=sizeLine) (hdf:d.params.defaults=[]) (hr:Room k callerA)
  (hY:∀(w:World) (h:Heap),YP w h->(K w.params).In h) (hT:∀(w:World) (h:Heap),YP w h->∀p∈Mks.ts,h.get? p.1=some (PySem.W.tabObj #[]))
  (hK:∀(w:World),∀p∈Mks.ts,(K w.params).lookup p.1=none/\∃c,PySem.W.codeHdIn (K w.params) c p.1=true)
  (F:∀(w:World) (mg:Str->Option Value) (fa:Addr) (h:Heap),(K w.params).In h->h.Ns mainGlobals mg->mg d.name=some (.ref fa)->
   ∃fd:FuncData,(∀(s:Shared) (u:Value),BindsTo s fd ⟨[u],[]⟩ [(x,u)])/\
    ∀base:Heap,(K w.params).In base->base.Ns mainGlobals mg->BM mg base->FnOk l.prog w (K w.params) mg base CX0 k fa fd [x] (sp w))
  (hsp:∀(w:World) (H:Hp) (a:Addr) (ns:List Int),ns.length<=n->FixL (K w.params) H a (ns.map V.int)->TB H->sp w [.ref a] H (fun v _=>v=.bl true) fun _ _ _=>False) :
  PySem.W.WalkO q loose XP YP l.row.toRowW d [] (fun f vs=>PySem.call f vs):=by
 refine Att.attach_call hn hdf fun w s₀ s₁ mg mb fa o pm cd doc a vs ns G Y ho hd hcd hmg hobj hints hlen hg=>?_
 have KX:=hY w _ Y
 obtain ⟨fd,hb,hF⟩:=F w mg fa _ KX G.T.g hmg
 obtain ⟨bm,ob,b1,b2,b3,b4,b5,b6⟩:=G.T.bmain
 have hbG:bm≠mainGlobals:=fun z=>by
  obtain ⟨o,es,ep,e,hd,_⟩:=G.T.g
  rw [z,e] at b3;cases b3;rw [hd] at b6;cases b6
 refine law_callT KX G.T.g G.T.b G.T.builtins G.T.nolimit hg ⟨bm,ob,b1,b2,hbG,b3,b4,b5,b6⟩ hobj hints (Nat.le_trans hlen hn2) hr (fun p hp=>?_) hF hb fun H hx tb=>hsp w H a ns hlen hx tb
 obtain ⟨k1,c,k2⟩:=hK w p hp
 have e:=hT w _ Y p hp
 exact ⟨e,k1,((PySem.W.codeHd_of_K KX k2).tab e).isCodeTable⟩
end R
end
section
namespace R
open PySem PySem.Spec PyProof.Rows L2
variable [Mks]
theorem putK_ne {κ:Type} [DecidableEq κ] {x:κ × V} {r:List (κ × V)} {k:κ} {v:V} (h:x.1≠k):putK (x::r) k v=x::putK r k v:=by
 unfold putK
 have:decide (x.1=k)=false:=decide_eq_false h
 simp only [List.any_cons,this,Bool.false_or]
 split
 · rw [List.map_cons,if_neg h]
 · rfl
theorem put_bump:∀(rows:List (Int × Int)) (w:Int),(rows.map (·.1)).Nodup->∃c:Int,(valV (dRows rows) (.inl w)).getD (.int 0)=.int c/\putK (dRows rows) (.inl w) (.int (c+1))=dRows (bump rows w)
 | [],w,_=>⟨0,rfl,rfl⟩
 | (k, c) :: r, w, nd => by
   simp only [List.map_cons,List.nodup_cons] at nd
   by_cases e:k=w
   · subst e
     refine ⟨c,by simp [dRows,valV],?_⟩
     have hm:(dRows r).map (fun kv=>if kv.1=(Sum.inl k:Key) then (kv.1,V.int (c+1)) else kv)=dRows r:=by
      rw [List.map_congr_left (g:=id),List.map_id]
      intro kv hkv
      unfold dRows at hkv
      obtain ⟨q,hq,rfl⟩:=List.mem_map.mp hkv
      have:q.1≠k:=fun z=>nd.1 (z▸List.mem_map.mpr ⟨q,hq,rfl⟩)
      simp [this]
     have hd:dRows ((k,c)::r)=(.inl k,.int c)::dRows r:=rfl
     unfold bump
     rw [if_pos rfl,hd]
     unfold putK
     have:(((Sum.inl k:Key),V.int c)::dRows r).any (fun kv=>decide (kv.1=Sum.inl k))=true:=by simp
     rw [if_pos this,List.map_cons,hm,if_pos rfl]
     rfl
   · obtain ⟨d,h1,h2⟩:=put_bump r w nd.2
     have hne:(Sum.inl k:Key)≠Sum.inl w:=fun z=>e (Sum.inl.inj z)
     have hd:dRows ((k,c)::r)=(.inl k,.int c)::dRows r:=rfl
     refine ⟨d,?_,?_⟩
     · rw [hd,<-h1]
       unfold valV
       rw [List.find?_cons_of_neg (by simpa using e)]
     · rw [hd,putK_ne hne,h2]
       have hb:bump ((k,c)::r) w=(k,c)::bump r w:=by rw [bump,if_neg e]
       rw [hb];rfl
theorem RVs.ofGet {K:PySem.W.Frag} {ι:List Addr} {H:Hp}:∀{ds:List D} {vs:List V},ds.length=vs.length->(∀(i:Nat) d v,ds[i]?=some d->vs[i]?=some v->RV K ι H d v)->RVs K ι H ds vs
 | [],[],_,_=>rfl
 | [],_::_,h,_=>by simp at h
 |_::_,[],h,_=>by simp at h
 |d::ds,v::vs,h,f=>⟨v,vs,rfl,f 0 d v rfl rfl,RVs.ofGet (by simpa using h) fun i a b h1 h2=>f (i+1) a b (by simpa using h1) (by simpa using h2)⟩
theorem RH.add {K:PySem.W.Frag} {ι:List Addr} {H H':Hp} {S:R.St} {p:Addr} {o:MO} (h:RH K ι H S) (x:Ext ι H (ι++[p]) H') (e:∀a∈ι,H' a=H a) (hp:p∉ι) (ho:RO K (ι++[p]) H' p o):RH K (ι++[p]) H' (S.push o):=by
 refine ⟨by rw [List.length_append,h.len,push_len];rfl,?_,fun l o' q=>?_,x.kp.tab h.tab⟩
 · rw [List.nodup_append]
   refine ⟨h.nd,by simp,fun a ha b hb=>?_⟩
   simp at hb;subst hb
   exact fun z=>hp (z▸ha)
 · by_cases hl:l<S.len
   · rw [get_push_lt hl] at q
     obtain ⟨a,h1,h2,hm⟩:=h.mem q
     exact ⟨a,pre_get (List.prefix_append _ _) h1,h2.stay x (e a hm)⟩
   · have hl2:=get_lt q
     rw [push_len] at hl2
     have:l=S.len:=by omega
     subst this
     rw [get_push] at q;cases q
     exact ⟨p,by rw [<-h.len];simp,ho⟩
section
variable {X:Cx} {p1 p2 p3 p4 p5 p6 p7 p8 p9 p10 p11 p12 p13 p14 p15 p16 p17 p18 p19 p20 p21 p22 p23 p24 p25 p26 p27 p28 p29:Pos} {k7 k15 k17:Nat} {params:Arguments} {body:Expr} {scope:Scope}
noncomputable def tallyB (p1 p2 p3 p4 p5 p6 p7 p8 p9 p10 p11 p12 p13 p14 p15 p16 p17 p18 p19 p20 p21 p22 p23 p24 p25 p26 p27 p28 p29:Pos) (params:Arguments) (body:Expr) (scope:Scope):List Stmt:=
 [.Assign [.Name "counts" p1] (.Dict [] [] p2) p3,
  .For (.Name "word" p4) (.Name "words" p5) [.If (.Compare (.Name "word" p6) [.IsNot] [.Constant .none 0 p7] p8)
   [.Assign [.Subscript (.Name "counts" p9) (.Name "word" p10) p11] (.BinOp (.Call (.Attribute (.Name "counts" p12) "get" p13) [.Name "word" p14,.Constant (.int 0) 0 p15] [] p16) .Add (.Constant (.int 1) 0 p17) p18) p19] [] p20] [] p21,
  .Return (some (.Call (.Name "sorted" p22) [.Call (.Attribute (.Name "counts" p23) "items" p24) [] [] p25] [⟨some "key",.Lambda params body scope p26,p27⟩] p28)) p29]
noncomputable def tStep (K:PySem.W.Frag):TS:=tIfS (tTest (tOp (fun x y H Q=>y=.non/\Q (.bl (!decide (x=.non))) H) (tVar 2) (tC .non))) (sDPut (tVar 1) (tVar 2) (tOp (rI0 fun i j=>.int (i+j)) (tDGet2 (tVar 1) (tVar 2) (tC (.int 0))) (tC (.int 1)))) tNext
theorem ps_tally (hN:X.N=[("words":Str),"counts","word"]) (h0:X.env.scope.names.lookup ("words":Str)=some .local) (h1:X.env.scope.names.lookup ("counts":Str)=some .local) (h2:X.env.scope.names.lookup ("word":Str)=some .local) (hc:X.calm=true) (hx:X.xe=fun _ _=>False) (hu:X.A.units+1<cLine)
  (m2:M2 X (.Name "counts" p12) "get" p13 (.Name "word" p14) (.Constant (.int 0) 0 p15) p16) (hs:swapsWith (.BinOp (.Call (.Attribute (.Name "counts" p12) "get" p13) [.Name "word" p14,.Constant (.int 0) 0 p15] [] p16) .Add (.Constant (.int 1) 0 p17) p18) (some (.Subscript (.Name "counts" p9) (.Name "word" p10) p11)) p19.line X.env=pure false)
  (hw:swapsWith (.Dict [] [] p2) (some (.Name "counts" p1)) p3.line X.env=pure false) {tr:TE} (hr:PE X (.Call (.Name "sorted" p22) [.Call (.Attribute (.Name "counts" p23) "items" p24) [] [] p25] [⟨some "key",.Lambda params body scope p26,p27⟩] p28) tr) :
  PSs X (tallyB p1 p2 p3 p4 p5 p6 p7 p8 p9 p10 p11 p12 p13 p14 p15 p16 p17 p18 p19 p20 p21 p22 p23 p24 p25 p26 p27 p28 p29 params body scope)
   (tSeq (tAsg tDNewK (gName 1)) (tSeq (tFor (iList X.K (tVar 0)) (gName 2) (tStep X.K)) (tRet tr))):=by
 have n0:X.N[0]?=some ("words":Str):=by rw [hN];rfl
 have n1:X.N[1]?=some ("counts":Str):=by rw [hN];rfl
 have n2:X.N[2]?=some ("word":Str):=by rw [hN];rfl
 have nd:X.N.Nodup:=by rw [hN];decide
 have v0:∀{p:Pos},PE X (.Name "words" p) (tVar 0):=pe_var n0 (.inl h0)
 have v1:∀{p:Pos},PE X (.Name "counts" p) (tVar 1):=pe_var n1 (.inl h1)
 have v2:∀{p:Pos},PE X (.Name "word" p) (tVar 2):=pe_var n2 (.inl h2)
 have hp:PassesOwn (model X.prog X.w) X.A X.env X.xe:=by rw [hx];exact PassesOwn.never
 refine pss_cons (ps_set nd n1 (.inl h1) pe_dnewK hw (.inr h1)) (pss_cons (ps_for hp hc (pi_list v0) (pg_name nd n2 (.inl h2) (.inr h2)) (pss_one (ps_if (pt_cmpR op_notN v2 pe_non (nomark _)) (pss_one (ps_dput hu v1 v2 (pe_op op_add (pe_dget2 hu v1 v2 pe_int m2) pe_int) hs)) pss_nil))) (pss_one (ps_ret hr)))
theorem take_succ_map {os:List (Option Int)} {i:Nat} {o:Option Int} (h:os[i]?=some o):os.take (i+1)=os.take i++[o]:=by
 rw [List.take_add_one,h];rfl
theorem counts_snoc (kvs:List (Int × Int)) (os:List (Option Int)) (o:Option Int):countsFrom kvs (os++[o])=match o with|some x=>bump (countsFrom kvs os) x|none=>countsFrom kvs os:=by
 unfold countsFrom
 rw [List.foldl_append]
 cases o<;>rfl
theorem run_tally {K:PySem.W.Frag} {H:Hp} {a:Addr} {os:List (Option Int)} {Q:VK} {D0:Ends} {tr:TE} (hD:D0.rt=Q) (ha:H a=some (.lst (os.map wV))) (hl:os.length<=sizeLine)
  (fin:∀(p:Addr) (σ:L2.St),H p=none->σ[1]?=some (some (.ref p))->tr σ (upd H p (.dK (dRows (countsFrom [] os)))) Q) :
  (tSeq (tAsg tDNewK (gName 1)) (tSeq (tFor (iList K (tVar 0)) (gName 2) (tStep K)) (tRet tr))) D0 (start ["words","counts","word"] [.ref a]) H:=by
 intro p hp
 have nap:a≠p:=ne_of_none ha hp
 refine ⟨.ref a,rfl,a,rfl,⟨_,SqL.of ((upd_ne nap).trans ha)⟩,?_⟩
 refine for_list (xs:=os.map wV) (fun i σ H'=>(∃z,σ=[some (.ref a),some (.ref p),z])/\H'=upd H p (.dK (dRows (countsFrom [] (os.take i))))) ⟨⟨none,rfl⟩,rfl⟩ (fun i σ H' _ h=>?_) (fun i x σ H' hx h=>?_) fun σ H' h=>?_
 · rw [h.2];exact SqL.of ((upd_ne nap).trans ha)
 · obtain ⟨⟨z,rfl⟩,rfl⟩:=h
   rw [List.getElem?_map] at hx
   cases e:os[i]? with
   |none=>rw [e] at hx;cases hx
   | some o =>
     rw [e] at hx
     cases hx
     have hi:i<os.length:=(List.getElem?_eq_some_iff.mp e).1
     show tStep K _ [some (.ref a),some (.ref p),some (wV o)] _
     refine ⟨wV o,rfl,rfl,_,rfl,?_⟩
     rw [take_succ_map e,counts_snoc]
     cases o with
     |none=>exact ⟨⟨_,rfl⟩,rfl⟩
     | some w =>
       obtain ⟨c,c1,c2⟩:=put_bump (countsFrom [] (os.take i)) w (countsFrom_nodup _ List.nodup_nil)
       have hlen:(dRows (countsFrom [] (os.take i))).length<sizeLine:=by
        have:=counts_len (os.take i)
        rw [List.length_take] at this
        unfold dRows
        rw [List.length_map]
        omega
       refine ⟨.ref p,rfl,p,rfl,.inl ⟨_,.inl upd_same⟩,.int w,rfl,_,DGet.k (k:=.inl w) upd_same,c,1,c1,rfl,.ref p,rfl,.int w,rfl,p,_,rfl,DPut.k (k:=.inl w) upd_same hlen,⟨⟨_,rfl⟩,?_⟩⟩
       rw [upd_upd,c2]
 · obtain ⟨⟨z,rfl⟩,rfl⟩:=h
   rw [List.length_map,List.take_length]
   show tr _ _ D0.rt
   rw [hD]
   exact fin p _ hp rfl
theorem tally_left {K:PySem.W.Frag} {ι:List Addr} {H H2:Hp} {S:R.St} {p v D0:Addr} {o1 o2:HO} {os:List (Option Int)} {ts:List Addr} (hh:RH K ι H S) (hp:H p=none) (hv:upd H p o1 v=none) (x:Ext [] (upd (upd H p o1) v o2) [] H2) (hD:upd (upd H p o1) v o2 D0=none)
  (h2:H2 D0=some (.lst (ts.map V.ref))) (hl:ts.length=(countsFrom [] os).length) (ht:∀(j:Nat) (t:Addr),ts[j]?=some t->∃r:Int × Int,(tallyL (countsFrom [] os))[j]?=some r/\H2 t=some (.tup [.int r.1,.int r.2])) :
  Ext ι H (ι++[D0]) H2/\RH K (ι++[D0]) H2 (S.push (.lst (talD os))):=by
 have k1:Kp H (upd (upd H p o1) v o2):=(Kp.new hp o1).trans (Kp.new hv o2)
 have up:∀a o,H a=some o->upd (upd H p o1) v o2 a=some o:=fun a o e=>by
  have e1:upd H p o1 a=some o:=(upd_ne (ne_of_none e hp)).trans e
  exact (upd_ne (ne_of_none e1 hv)).trans e1
 have hDn:H D0=none:=by
  cases e:H D0 with
  |none=>rfl
  |some o=>rw [up _ _ e] at hD;cases hD
 have hDi:D0∉ι:=hh.fresh hDn
 have ex:Ext ι H (ι++[D0]) H2:=⟨List.prefix_append _ _,k1.trans x.kp,fun a o h e=>⟨(x.rest a o (by simp) (up a o e)).1,fun z=>by
  rcases List.mem_append.mp z with z|z
  · exact h z
  · simp at z;exact ne_of_none e hDn z⟩⟩
 refine ⟨ex,hh.add ex (fun a hm=>?_) hDi ⟨_,h2,RVs.ofGet ?_ fun i d w e1 e2=>?_⟩⟩
 · obtain ⟨o,e,_,_,nt⟩:=hh.live hm
   rw [e]
   exact x.keep (by simp) (up a o e) nt
 · unfold talD
   rw [List.length_map,List.length_map,hl]
   unfold tallyL
   rw [List.length_mergeSort]
 · rw [List.getElem?_map] at e2
   unfold talD at e1
   rw [List.getElem?_map] at e1
   cases z:ts[i]? with
   |none=>rw [z] at e2;cases e2
   | some t =>
     rw [z] at e2;cases e2
     obtain ⟨r,r1,r2⟩:=ht i t z
     rw [r1] at e1;cases e1
     exact ⟨t,_,rfl,r2,_,_,rfl,rfl,_,_,rfl,rfl,rfl⟩
end
end R
end
section
namespace R
open PySem PySem.Spec PyProof.Rows L2
variable [Mks]
theorem prm_tally_inv {S:R.St} {ds:List D} {Q:D->R.St->Prop} (h:W (prm S .tally ds) Q):∃l ws os,ds=[.ref l]/\S.get l=some (.lst ws)/\wordsOf ws=some os/\(countsFrom [] os).length<64/\os.length<=16777216/\Q (.ref S.len) (S.push (.lst (talD os))):=by
 unfold prm at h
 split at h
 · rename_i l _
   split at h
   · rename_i ws e
     split at h
     · rename_i os e2
       split at h
       · rename_i c
         exact ⟨l,ws,os,rfl,e,e2,c.1,c.2,h⟩
       · exact h.elim
     · exact h.elim
   · exact h.elim
 · exact h.elim
structure TallySt (st:Stmt):Prop where
 ex:∃(p1 p2 p3 p4 p5 p6 p7 p8 p9 p10 p11 p12 p13 p14 p15 p16 p17 p18 p19 p20 p21 p22 p23 p24 p25 p26 p27 p28 p29:Pos) (params:Arguments) (body:Expr) (scope:Scope),defBody st=tallyB p1 p2 p3 p4 p5 p6 p7 p8 p9 p10 p11 p12 p13 p14 p15 p16 p17 p18 p19 p20 p21 p22 p23 p24 p25 p26 p27 p28 p29 params body scope/\
  (p13.endLine == p16.line)=true/\(p24.endLine == p25.line)=true/\(∀env,defaultsOf params env=([],[]))/\(∀env,closureFor scope env=pure [])/\FnScope ["row"] ["row"] scope/\chkE noTab keyCE ["row"] scope body=true/\
  ∀(q:Str) (pm cd ct u:Value),bindArgs (PySem.W.kla_fn "<lambda>" q params body scope [] pm cd ct) ⟨[u],[]⟩=pure [(("row":Str),u)]
 sc:FnScope ["words","counts","word"] ["words"] (defScope st)
 h0:(defScope st).names.lookup ("words":Str)=some .local
 h1:(defScope st).names.lookup ("counts":Str)=some .local
 h2:(defScope st).names.lookup ("word":Str)=some .local
 hg:(defScope st).names.lookup ("sorted":Str)=some .globalImplicit
theorem tally_ok {P:Program} {w:World} {K:PySem.W.Frag} {mg:Str->Option Value} {base:Heap} {Pg:List Fn} {n fi:Nat} {x qual:Str} {st:Stmt} {f c Tb:Addr} {oc:Value} {od an:Option Addr} {osl:Array (Option Value)} {dV kV doc pm ct:Value} {F:Fn}
  (lk:K.lookup f=some ⟨oc,od,.func (PySem.W.fnOf x qual (defArgs st) (defBody st) (defScope st) dV kV doc pm an (.ref c) ct),osl⟩) (hcd:PySem.W.codeIn K (.ref c) qual=true) (hC:PySem.W.codeHdIn K c Tb=true) (T:TallySt st) (bm:BM mg base)
  (mem:(Tb,qual ++ ".<locals>." ++ "<lambda>")∈Mks.ts) (one:∀p∈Mks.ts,p.1=Tb->p.2=qual ++ ".<locals>." ++ "<lambda>") (hm:mg "sorted"=none) (hP:Pg[fi]?=some F) (hq:F.prim=some .tally) (hp:F.np=1) (hn:3<=n) :
  FnOk P w K mg base CX0 (n+2) f (PySem.W.fnOf x qual (defArgs st) (defBody st) (defScope st) dV kV doc pm an (.ref c) ct) ["words"] (spF K (callF Pg (n+1)) fi):=by
 obtain ⟨p1,p2,p3,p4,p5,p6,p7,p8,p9,p10,p11,p12,p13,p14,p15,p16,p17,p18,p19,p20,p21,p22,p23,p24,p25,p26,p27,p28,p29,params,body,scope,eb,l1,l2,hdef,hcl,hs,ck,hb⟩:=T.ex
 refine fn_of lk hcd T.sc (fun vs H Q E h=>spF_len (ps:=["words"]) hP hp h) fun A outer s H vs Q E hr h=>?_
 obtain ⟨ι,S0,ds,r,hh,hw⟩:=h
 simp only [callF,hP,hq,hn,if_true] at hw
 split at hw
 · obtain ⟨l,ws,os,rfl,hg,ho,c64,cl,q⟩:=prm_tally_inv hw
   have room:Room 2 ((cxOf CX0 P w K mg base ["words","counts","word"] qual (defScope st) f (.ref c) A outer s H E).nox).A.in1.in1:=((hr.mono (Nat.succ_le_succ hn)).in1).in1
   have hu:((cxOf CX0 P w K mg base ["words","counts","word"] qual (defScope st) f (.ref c) A outer s H E).nox).A.units+1<cLine:=by have:=hr.un;show (A.deeper _).units+1<_;omega
   have mk:Maker ((cxOf CX0 P w K mg base ["words","counts","word"] qual (defScope st) f (.ref c) A outer s H E).nox) c Tb:=⟨bm,rfl,hC,mem,one⟩
   have hpe:=pe_tally (X:=(cxOf CX0 P w K mg base ["words","counts","word"] qual (defScope st) f (.ref c) A outer s H E).nox) (p:=p22) (lpos:=p26) (kpos:=p27) (pos:=p28) (pe_var (pos:=p23) (i:=1) (x:="counts") rfl (.inl T.h1)) (apos:=p24) (cpos:=p25) ⟨rfl,rfl,l2⟩ T.hg hm room mk (hdef _) (hcl _) hs (hb _) ck
   have ht:=ps_tally (X:=(cxOf CX0 P w K mg base ["words","counts","word"] qual (defScope st) f (.ref c) A outer s H E).nox) (p1:=p1) (p2:=p2) (p3:=p3) (p4:=p4) (p5:=p5) (p6:=p6) (p7:=p7) (p8:=p8) (p9:=p9) (p10:=p10) (p11:=p11) (p12:=p12) (p13:=p13) (p14:=p14) (p15:=p15) (p16:=p16) (p17:=p17) (p18:=p18) (p19:=p19) (p20:=p20) (p21:=p21) (p29:=p29)
    rfl T.h0 T.h1 T.h2 rfl rfl hu ⟨rfl,rfl,l1,rfl⟩ rfl rfl hpe
   refine ⟨_,by rw [eb];exact ht.nox,?_⟩
   obtain ⟨v,r0,rfl,rv,rn⟩:=r
   cases (show r0=[] from rn)
   obtain ⟨a,ia,rfl⟩:=rv
   obtain ⟨b,ib,xs,hb2,rr⟩:=hh.obj l _ hg
   rw [ia] at ib;cases ib
   rw [words_get ho] at rr
   cases words_vs rr
   refine run_tally rfl hb2 (by rw [sizeLine_eq];exact cl) fun p σ hp1 hσ=>?_
   refine ⟨.ref p,hσ,p,_,rfl,upd_same,fun v hv=>⟨v,p,_,rfl,upd_same,?_,c64,?_,fun D0 H2 ts x hD h2 hl ht=>?_⟩⟩
   · rw [upd_ne (ne_of_none upd_same hv)];exact upd_same
   · exact (Kp.new hv _).tab ((Kp.new hp1 _).tab hh.tab)
   · obtain ⟨ex,rh⟩:=tally_left hh hp1 hv x hD h2 hl ht
     exact q _ _ (ι++[D0]) ex ⟨D0,hh.last D0,rfl⟩ rh
 · exact hw.elim
end R
end
section
namespace R
noncomputable def oD:Option Int->D|some i=>.int i|none=>.non
theorem words_oD:∀os:List (Option Int),wordsOf (os.map oD)=some os
 | []=>rfl
 | o :: os => by
   unfold wordsOf
   rw [List.map_cons,List.mapM_cons,show (os.map oD).mapM wordOf=some os from words_oD os]
   cases o<;>rfl
theorem flats_tal (n:Nat) (os:List (Option Int)):flats n (talD os)=true:=by
 rw [flats_iff]
 intro d hd
 obtain ⟨r,_,rfl⟩:=List.mem_map.mp hd
 simp [rowD]
theorem app_tally {P:List Fn} {F:Fn} {f n l:Nat} {S:R.St} {os:List (Option Int)} (hP:P[f]?=some F) (hq:F.prim=some .tally) (hn:F.np=1) (h:S.get l=some (.lst (os.map oD))) (hc:(countsFrom [] os).length<64) (hl:os.length<=16777216):app (callF P (n+4)) f [.ref l] S=.ok (.ref S.len) (S.push (.lst (talD os))):=by
 have e:callF P (n+4) f [.ref l] S.enter=.ok (.ref S.len) (S.enter.push (.lst (talD os))):=by
  have h3:3<=n+3:=by omega
  simp only [callF,hP,hq,hn,List.length_cons,List.length_nil,Nat.zero_add,if_true,h3]
  unfold prm
  dsimp only
  rw [get_enter,h]
  dsimp only
  rw [words_oD]
  dsimp only
  rw [if_pos ⟨hc,hl⟩,enter_len]
 unfold app
 rw [e,bind_ok]
 unfold leave
 have hg:(S.enter.push (.lst (talD os))).get S.len=some (.lst (talD os)):=by
  have:=get_new0 (S.frz++S.new) [.lst (talD os)] []
  rw [len_def] at this
  exact this
 rw [if_neg (by simp [flat])]
 dsimp only
 rw [hg]
 dsimp only
 rw [if_pos (flats_tal _ _)]
theorem tal_perm (rows:List (Int × Int)):(tallyL rows).Perm rows:=List.mergeSort_perm rows rowLe
theorem tal_mem {rows:List (Int × Int)} {r:Int × Int}:r∈tallyL rows↔r∈rows:=(tal_perm rows).mem_iff
theorem tal_sorted (rows:List (Int × Int)):(tallyL rows).Pairwise fun a b=>rowLe a b=true:=by
 refine List.pairwise_mergeSort (fun a b c h1 h2=>?_) (fun a b=>?_) rows
 · simp only [rowLe,decide_eq_true_eq] at h1 h2⊢;omega
 · simp only [rowLe,Bool.or_eq_true,decide_eq_true_eq];omega
open PySem (PyData)
theorem mapM_get {α β:Type} {f:α->Option β}:∀{xs:List α} {ys:List β},xs.mapM f=some ys->∀y∈ys,∃x∈xs,f x=some y
 | [],ys,h,y,hy=>by simp at h;subst h;cases hy
 | x :: xs, ys, h, y, hy => by
   rw [List.mapM_cons] at h
   cases e:f x with
   |none=>rw [e] at h;cases h
   | some z =>
     rw [e] at h
     cases e2:xs.mapM f with
     |none=>rw [e2] at h;cases h
     | some zs =>
       rw [e2] at h
       injection h with h
       subst h
       rcases List.mem_cons.mp hy with rfl|hy
       · exact ⟨x,by simp,e⟩
       · obtain ⟨u,hu,eu⟩:=mapM_get e2 y hy
         exact ⟨u,by simp [hu],eu⟩
theorem eqvAll_refl:∀{xs:List PyData},(∀x∈xs,PyData.eqv x x=true)->PyData.eqvAll xs xs=true
 | [],_=>by simp [PyData.eqvAll]
 |x::xs,h=>by simp [PyData.eqvAll,h x (by simp),eqvAll_refl (xs:=xs) fun y hy=>h y (by simp [hy])]
theorem pd_refl {S:St}:∀{n:Nat} {d:D} {a:PyData},pd S n d=some a->PyData.eqv a a=true:=by
 intro n
 induction n with
 | zero =>
   intro d a h
   cases d<;>simp only [pd] at h
   · cases h;simp [PyData.eqv]
   · cases h;simp [PyData.eqv]
   · cases h;simp [PyData.eqv]
   · split at h
     · cases h;simp [PyData.eqv]
     · cases h
   · cases h
   · cases h
   · cases h
 | succ n ih =>
   intro d a h
   cases d<;>simp only [pd] at h
   · cases h;simp [PyData.eqv]
   · cases h;simp [PyData.eqv]
   · cases h;simp [PyData.eqv]
   · split at h
     · cases h;simp [PyData.eqv]
     · cases h
   · rename_i ds
     cases e:ds.mapM (pd S n) with
     |none=>rw [e] at h;cases h
     | some xs =>
       rw [e] at h
       cases h
       rw [PyData.eqv]
       exact eqvAll_refl fun x hx=>let ⟨d,_,hd⟩:=mapM_get e x hx;ih hd
   · split at h
     · rename_i ds _
       cases e:ds.mapM (pd S n) with
       |none=>rw [e] at h;cases h
       | some xs =>
         rw [e] at h
         cases h
         rw [PyData.eqv]
         exact eqvAll_refl fun x hx=>let ⟨d,_,hd⟩:=mapM_get e x hx;ih hd
     · cases h
   · cases h
theorem eqD_of {S:St} {x y:D} {a:PyData} (h1:pd S 60 x=some a) (h2:pd S 60 y=some a):eqD S x y=some true:=by
 unfold eqD
 rw [h1,h2]
 exact congrArg some (pd_refl h1)
theorem pd_list {S:St} {l n:Nat} {ds:List D} {xs:List PyData} (h:S.get l=some (.lst ds)) (e:ds.mapM (pd S n)=some xs):pd S (n+1) (.ref l)=some (.list xs):=by
 simp only [pd,h,e];rfl
theorem dKvs_lst {S:St} {a:Nat} {ds:List D} (h:S.get a=some (.lst ds)):dKvs S (.ref a)=none:=by unfold dKvs;dsimp only;rw [h]
theorem eqAny_lst {S:St} {a:Nat} {y:D} {ds:List D} (h:S.get a=some (.lst ds)):eqAny S (.ref a) y=eqD S (.ref a) y:=by unfold eqAny;rw [dKvs_lst h]
theorem cmp_ne_same {S:St} {a b:Nat} {ds:List D} {xs:List PyData} (h1:S.get a=some (.lst ds)) (h2:S.get b=some (.lst ds)) (e:ds.mapM (pd S 59)=some xs):cmpO S .NotEq (.ref a) (.ref b)=some false:=by
 show (eqAny S (.ref a) (.ref b)).map (!·)=_
 rw [eqAny_lst h1,eqD_of (pd_list h1 e) (pd_list h2 e)];rfl
noncomputable def oP:Option Int->PyData|some i=>.int i|none=>.none
theorem push_get (S:St) (o:MO):(S.push o).get S.len=some o:=by
 have h:¬S.len<S.frz.length:=by unfold St.len;omega
 unfold St.get St.push
 simp only [h,if_false]
 unfold St.len
 simp
theorem push_old {S:St} {l:Nat} {o u:MO} (e:S.get l=some u):(S.push o).get l=some u:=by
 have h:=get_lt e
 unfold St.len at h
 unfold St.get at e⊢
 unfold St.push
 simp only
 split
 · rename_i c;rw [if_pos c] at e;exact e
 · rename_i c;rw [if_neg c] at e;rw [List.getElem?_append_left (by omega)];exact e
theorem put_some {S:St} {l:Nat} (o:MO) (h1:S.frz.length<=l) (h2:S.lk.contains l=false):∃S',S.put l o=some S'/\S'.frz=S.frz/\S'.lk=S.lk/\S'.len=S.len/\(∀m,m≠l->S'.get m=S.get m)/\(l<S.len->S'.get l=some o):=by
 refine ⟨{S with new:=S.new.set (l - S.frz.length) o},?_,rfl,rfl,by simp [St.len],fun m hm=>?_,fun hl=>?_⟩
 · unfold St.put
   rw [if_neg (by omega),h2];rfl
 · unfold St.get
   simp only
   split
   · rfl
   · rw [List.getElem?_set_ne (by omega)]
 · unfold St.len at hl
   unfold St.get
   simp only [show ¬l<S.frz.length by omega,if_false]
   rw [List.getElem?_set_self (by omega)]
theorem eqD_int (S:St) (i j:Int):eqD S (.int i) (.int j)=some (i == j):=by
 unfold eqD
 have e:∀k,pd S 60 (.int k)=some (.int k):=fun k=>rfl
 rw [e,e]
 show some (PyData.eqv (.int i) (.int j))=_
 rw [L2.eqv_int]
theorem inD_ints (S:St) (x:Int):∀ks:List Int,inD S (.int x) (ks.map .int)=some (decide (x∈ks)):=by
 intro ks
 have e:(ks.map D.int).mapM (fun z=>eqD S z (.int x))=some (ks.map fun k=>k == x):=by
  induction ks with
  |nil=>rfl
  |cons k ks ih=>rw [List.map_cons,List.mapM_cons,eqD_int,ih];rfl
 have f:∀ks:List Int,((ks.map fun k=>k == x).any id)=decide (x∈ks):=by
  intro ks
  induction ks with
  |nil=>rfl
  | cons k ks ih =>
    rw [List.map_cons,List.any_cons,ih]
    by_cases c:k=x
    · subst c;simp
    · have c':¬x=k:=fun z=>c z.symm
      have b:(k == x)=false:=beq_eq_false_iff_ne.mpr c
      simp only [b,id,Bool.false_or,List.mem_cons,c',false_or]
 unfold inD
 rw [e]
 exact congrArg some (f ks)
theorem in_lst {S:St} {l:Nat} {ks:List Int} (h:S.get l=some (.lst (ks.map .int))) (x:Int):cmpO S .In (.int x) (.ref l)=some (decide (x∈ks)):=by
 show inAny S (.int x) (.ref l)=_
 unfold inAny
 rw [dKvs_lst h]
 show ((match S.get l with|some (.lst ds)=>some ds|_=>none).bind fun ys=>inD S (.int x) ys)=_
 rw [h]
 exact inD_ints S x ks
theorem notIn_lst {S:St} {l:Nat} {ks:List Int} (h:S.get l=some (.lst (ks.map .int))) (x:Int):cmpO S .NotIn (.int x) (.ref l)=some (!decide (x∈ks)):=by
 show (cmpO S .In (.int x) (.ref l)).map (!·)=_
 rw [in_lst h];rfl
theorem atI_last {α:Type} (xs:List α) (x:α):R.atI (xs++[x]) (-1)=some x:=by
 have:R.ixN (xs++[x]).length (-1)=some xs.length:=by
  unfold R.ixN
  rw [if_neg (by omega),if_pos (by simp;omega)]
  simp
  omega
 unfold R.atI
 rw [this]
 simp
noncomputable def cntZ (os:List (Option Int)):Option Int->Int
 |some w=>(os.count (some w):Nat)
 |none=>0
theorem take_snoc {α:Type} {os:List α} {i:Nat} {o:α} (h:os[i]?=some o):os.take (i+1)=os.take i++[o]:=by
 rw [List.take_add_one,h];rfl
theorem cnt_pos {os:List (Option Int)} {w:Int} (h:some w∈os):0<cntZ os (some w):=by
 have:=List.count_pos_iff.mpr h
 show (0:Int)<((os.count (some w):Nat):Int)
 omega
theorem atI_nat {α:Type} {xs:List α} {k:Nat} {x:α} (h:xs[k]?=some x):R.atI xs (k:Int)=some x:=by
 have hl:=(List.getElem?_eq_some_iff.mp h).1
 have e:R.ixN xs.length (k:Int)=some k:=by simp [R.ixN,hl]
 unfold R.atI
 rw [e];exact h
theorem atI_0 {α:Type} {x:α} {xs:List α}:R.atI (x::xs) 0=some x:=by
 have:R.ixN (x::xs).length 0=some 0:=by simp [R.ixN]
 unfold R.atI;rw [this];rfl
theorem atI_1 {α:Type} {x y:α} {xs:List α}:R.atI (x::y::xs) 1=some y:=by
 have:R.ixN (x::y::xs).length 1=some 1:=by simp [R.ixN];omega
 unfold R.atI;rw [this];rfl
noncomputable def cellZ (ns:List Int) (k:Nat):Int:=match ns[k]? with|some v=>v % 10 ^ 64|none=>0
end R
end
section
namespace K51
noncomputable instance mks:R.Mks:=⟨[(23,"tally.<locals>.<lambda>")],[160]⟩
section
open PySem R L2
noncomputable def c_times:Fn:=⟨2,2,(.ret (.mt .count (.loc 0) (.cons (.loc 1) .nil)) .nil),none⟩
noncomputable def c_tally:Fn:=⟨1,3,.nil,some .tally⟩
noncomputable def c_strong:Fn:=⟨2,3,(.asg 2 (.call 1 0 (.cons (.loc 0) .nil)) (.ret (.ite (.and (.tst (.loc 2)) (.cmp .GtE (.ix (.ix (.loc 2) (.con (D.int 0))) (.con (D.int 1))) (.loc 1))) (.ix (.ix (.loc 2) (.con (D.int 0))) (.con (D.int 0))) (.con D.non)) .nil)),none⟩
noncomputable def c_rounds_for:Fn:=⟨1,1,(.ret (.bin .Add (.con (D.int 1)) (.bin .Mult (.con (D.int 3)) (.bin .Add (.loc 0) (.con (D.int 1))))) .nil),none⟩
noncomputable def c_step_of:Fn:=⟨1,1,(.ret (.bin .Mod (.bin .Sub (.loc 0) (.con (D.int 2))) (.con (D.int 3))) .nil),none⟩
noncomputable def c_word_from:Fn:=⟨2,4,(.forS [2,3] (.val (.loc 1)) (.ifS (.and (.cmp .Eq (.loc 2) (.tup (.cons (.loc 0) .nil))) (.cmp .IsNot (.loc 3) (.con D.non))) (.ret (.loc 3) .nil) .nil .nil) (.ret (.con (D.int 0)) .nil)),none⟩
noncomputable def c_law_cell_at:Fn:=⟨2,2,(.ifS (.cmp .Lt (.loc 1) (.bi .len (.cons (.loc 0) .nil))) (.ret (.bin .Mod (.ix (.loc 0) (.loc 1)) (.bin .Pow (.con (D.int 10)) (.con (D.int 64)))) .nil) .nil (.ret (.con (D.int 0)) .nil)),none⟩
noncomputable def c_law_like:Fn:=⟨2,2,(.ifS (.cmp .Is (.loc 1) (.con D.non)) (.ret (.cmp .Is (.loc 0) (.con D.non)) .nil) .nil (.ret (.and (.bi (.isin "int") (.cons (.loc 0) .nil)) (.and (.nt (.bi (.isin "bool") (.cons (.loc 0) .nil))) (.cmp .Eq (.loc 0) (.loc 1)))) .nil)),none⟩
noncomputable def c_law_strong:Fn:=⟨2,6,(.asg 2 (.con D.non) (.asg 3 (.con (D.int 0)) (.forS [4] (.val (.loc 0)) (.asg 5 (.bi .len (.cons (.mkL (.comp 1 [4] [0] (.val (.loc 0)) (.cmp .Eq (.loc 0) (.loc 1)) (.loc 0))) .nil)) (.ifS (.and (.cmp .IsNot (.loc 4) (.con D.non)) (.or (.cmp .Gt (.loc 5) (.loc 3)) (.and (.cmp .Eq (.loc 5) (.loc 3)) (.cmp .Lt (.loc 4) (.loc 2))))) (.asg 2 (.loc 4) (.asg 3 (.loc 5) .nil)) .nil .nil)) (.ifS (.cmp .Lt (.loc 3) (.loc 1)) (.ret (.tup (.cons (.con D.non) (.cons (.con (D.int 0)) .nil))) .nil) .nil (.ret (.tup (.cons (.loc 2) (.cons (.loc 3) .nil))) .nil))))),none⟩
noncomputable def c_law_step:Fn:=⟨5,13,(.asgT [5,6] (.loc 0) (.asgT [7,8] (.loc 3) (.asg 9 (.bin .Add (.lst (.cons (.loc 7) .nil)) (.mkL (.comp 2 [] [0,1] (.val (.loc 4)) (.tst (.con (D.bl true))) (.loc 1)))) (.ifS (.cmp .Eq (.bin .Mod (.loc 2) (.con (D.int 3))) (.con (D.int 2))) (.ret (.tup (.cons (.ix (.call 8 0 (.cons (.loc 9) (.cons (.bi .max2 (.cons (.con (D.int 1)) (.cons (.bin .Sub (.loc 5) (.loc 6)) .nil))) .nil))) (.con (D.int 0))) (.cons (.con (D.int 0)) .nil))) .nil) .nil (.ifS (.cmp .Eq (.bin .Mod (.loc 2) (.con (D.int 3))) (.con (D.int 0))) (.ret (.call 8 0 (.cons (.loc 9) (.cons (.bin .Add (.loc 6) (.con (D.int 1))) .nil))) .nil) .nil (.ifS (.and (.cmp .IsNot (.loc 7) (.con D.non)) (.cmp .GtE (.loc 8) (.bin .Sub (.loc 5) (.loc 6)))) (.ret (.loc 3) .nil) .nil (.asg 10 (.bin .Mod (.bin .FloorDiv (.bin .Sub (.loc 2) (.con (D.int 2))) (.con (D.int 3))) (.loc 5)) (.ifS (.cmp .NotEq (.loc 1) (.loc 10)) (.asg 7 (.con D.non) (.forS [11,12] (.val (.loc 4)) (.asg 7 (.loc 12) .nil) .nil)) .nil (.ifS (.cmp .Is (.loc 7) (.con D.non)) (.asg 7 (.con (D.int 0)) .nil) .nil (.ret (.tup (.cons (.loc 7) (.cons (.con (D.int 0)) .nil))) .nil)))))))))),none⟩
noncomputable def c_law_writers:Fn:=⟨4,4,(.ifS (.cmp .Eq (.loc 2) (.con (D.int 1))) (.ret (.mkL (.comp 1 [1] [0] (.val (.lst (.cons (.loc 3) .nil))) (.cmp .NotEq (.loc 0) (.loc 1)) (.loc 0))) .nil) .nil (.ifS (.cmp .Eq (.bin .Mod (.loc 2) (.con (D.int 3))) (.con (D.int 1))) (.ret (.mkL (.comp 1 [1] [0] (.val (.lst (.cons (.bin .Mod (.bin .FloorDiv (.bin .Sub (.loc 2) (.con (D.int 2))) (.con (D.int 3))) (.ix (.loc 0) (.con (D.int 0)))) .nil))) (.cmp .NotEq (.loc 0) (.loc 1)) (.loc 0))) .nil) .nil (.ret (.mkL (.comp 1 [1] [0] (.rng1 (.ix (.loc 0) (.con (D.int 0)))) (.cmp .NotEq (.loc 0) (.loc 1)) (.loc 0))) .nil))),none⟩
noncomputable def c_law_digit:Fn:=⟨3,5,(.asg 3 (.call 6 0 (.cons (.loc 0) (.cons (.bin .Add (.loc 1) (.bin .FloorDiv (.loc 2) (.con (D.int 50)))) .nil))) (.forS [4] (.rng1 (.bin .Mod (.loc 2) (.con (D.int 50)))) (.asg 3 (.bin .FloorDiv (.loc 3) (.con (D.int 12))) .nil) (.ret (.bin .Mod (.loc 3) (.con (D.int 12))) .nil))),none⟩
noncomputable def c_law_letters:Fn:=⟨5,12,(.asg 5 (.lst .nil) (.asg 6 (.bin .Add (.con (D.int 11)) (.bin .Mod (.bin .Add (.bin .Mult (.con (D.int 3)) (.call 6 0 (.cons (.loc 0) (.cons (.con (D.int 5)) .nil)))) (.bin .Mult (.con (D.int 997)) (.loc 1))) (.con (D.int 1398269)))) (.forS [7] (.rng1 (.bi .len (.cons (.loc 2) .nil))) (.asg 6 (.bin .Mod (.bin .Add (.bin .Add (.bin .Mult (.loc 6) (.con (D.int 2689))) (.bin .Mult (.bin .Mult (.con (D.int 53)) (.loc 7)) (.loc 7))) (.con (D.int 1021))) (.con (D.int 9999991))) (.asg 8 (.bin .FloorDiv (.loc 6) (.con (D.int 3))) (.ifS (.cmp .Lt (.bin .Add (.loc 1) (.loc 7)) (.bi .len (.cons (.loc 0) .nil))) (.asg 8 (.call 6 0 (.cons (.loc 0) (.cons (.bin .Add (.loc 1) (.loc 7)) .nil))) .nil) .nil (.asg 9 (.bin .FloorDiv (.loc 8) (.con (D.int 9))) (.asg 10 (.lst (.cons (.con (D.int 0)) (.cons (.con (D.int 1)) (.cons (.con (D.int 1)) (.cons (.loc 4) (.cons (.loc 3) (.cons (.loc 3) (.cons (.con D.non) (.cons (.bin .Sub (.bin .Mod (.loc 9) (.bin .Sub (.bin .Mult (.con (D.int 2)) (.bin .Pow (.con (D.int 10)) (.con (D.int 60)))) (.con (D.int 1)))) (.bin .Sub (.bin .Pow (.con (D.int 10)) (.con (D.int 60))) (.con (D.int 1)))) .nil))))))))) (.ifS (.cmp .Eq (.bin .Mod (.call 6 0 (.cons (.loc 0) (.cons (.con (D.int 5)) .nil))) (.con (D.int 2))) (.con (D.int 1))) (.asg 11 (.call 11 0 (.cons (.loc 0) (.cons (.con (D.int 6)) (.cons (.bin .Add (.bin .Sub (.loc 1) (.con (D.int 6))) (.loc 7)) .nil)))) (.ifS (.cmp .Lt (.loc 11) (.con (D.int 11))) (.expr (.mt .append (.loc 5) (.cons (.tup (.cons (.tup (.cons (.ix (.loc 2) (.loc 7)) .nil)) (.cons (.ix (.lst (.cons (.con (D.int 0)) (.cons (.con (D.int 1)) (.cons (.con (D.int 2)) (.cons (.con (D.int 3)) (.cons (.loc 4) (.cons (.loc 3) (.cons (.con D.non) (.cons (.bin .Sub (.con (D.int 0)) (.con (D.int 1))) (.cons (.bin .Sub (.con (D.int 0)) (.loc 4)) (.cons (.con (D.int 4)) (.cons (.con (D.int 5)) .nil)))))))))))) (.loc 11)) .nil))) .nil)) .nil) .nil .nil)) (.ifS (.cmp .Lt (.bin .Mod (.loc 8) (.con (D.int 9))) (.con (D.int 8))) (.expr (.mt .append (.loc 5) (.cons (.tup (.cons (.tup (.cons (.ix (.loc 2) (.loc 7)) .nil)) (.cons (.ix (.loc 10) (.bin .Mod (.loc 8) (.con (D.int 9)))) .nil))) .nil)) .nil) .nil .nil) .nil)))))) (.ret (.loc 5) .nil)))),none⟩
noncomputable def c_law_told:Fn:=⟨5,8,(.asg 5 (.mkL (.comp 1 [3,1,4] [0] (.rng1 (.loc 2)) (.and (.cmp .NotEq (.loc 0) (.loc 2)) (.tst (.loc 3))) (.tup (.cons (.tup (.cons (.loc 2) .nil)) (.cons (.loc 0) (.cons (.loc 1) .nil)))))) (.ifS (.or (.nt (.tst (.bi (.isin "list") (.cons (.loc 0) .nil)))) (.cmp .NotEq (.bi .len (.cons (.loc 0) .nil)) (.bi .len (.cons (.loc 5) .nil)))) (.ret (.con (D.bl false)) .nil) .nil (.forS [6,7] (.zip (.loc 0) (.loc 5)) (.ifS (.or (.nt (.tst (.bi (.isin "tuple") (.cons (.loc 6) .nil)))) (.or (.cmp .NotEq (.bi .len (.cons (.loc 6) .nil)) (.con (D.int 3))) (.or (.nt (.tst (.bi (.isin "tuple") (.cons (.ix (.loc 6) (.con (D.int 0))) .nil)))) (.cmp .NotEq (.bi .len (.cons (.ix (.loc 6) (.con (D.int 0))) .nil)) (.con (D.int 1)))))) (.ret (.con (D.bl false)) .nil) .nil (.ifS (.or (.nt (.tst (.call 7 0 (.cons (.ix (.ix (.loc 6) (.con (D.int 0))) (.con (D.int 0))) (.cons (.loc 1) .nil))))) (.or (.nt (.tst (.call 7 0 (.cons (.ix (.loc 6) (.con (D.int 1))) (.cons (.ix (.loc 7) (.con (D.int 1))) .nil))))) (.nt (.tst (.call 7 0 (.cons (.ix (.loc 6) (.con (D.int 2))) (.cons (.loc 3) .nil))))))) (.ret (.con (D.bl false)) .nil) .nil .nil)) (.ret (.con (D.bl true)) .nil)))),none⟩
noncomputable def c_law_says:Fn:=⟨6,7,(.asg 6 (.meth "say" [(0,27)] (.loc 0) (.cons (.loc 1) .nil)) (.ifS (.nt (.tst (.call 13 0 (.cons (.loc 6) (.cons (.loc 2) (.cons (.loc 3) (.cons (.loc 4) (.cons (.loc 5) .nil)))))))) (.ret (.con (D.bl false)) .nil) .nil (.expr (.clr (.loc 6)) (.ret (.call 13 0 (.cons (.meth "say" [(0,27)] (.loc 0) (.cons (.loc 1) .nil)) (.cons (.loc 2) (.cons (.loc 3) (.cons (.loc 4) (.cons (.loc 5) .nil)))))) .nil)))),none⟩
noncomputable def c_law_is_hand:Fn:=⟨3,3,(.ifS (.cmp .NotEq (.lst (.cons (.fld (.loc 0) "number") (.cons (.fld (.loc 0) "many") (.cons (.fld (.loc 0) "rounds") .nil)))) (.lst (.cons (.loc 1) (.cons (.ix (.loc 2) (.con (D.int 0))) (.cons (.bin .Add (.con (D.int 4)) (.bin .Mult (.con (D.int 3)) (.ix (.loc 2) (.con (D.int 1))))) .nil))))) (.ret (.con (D.bl false)) .nil) .nil (.ret (.isc [0] "Hand" (.loc 0)) .nil)),none⟩
noncomputable def c_law_storied:Fn:=⟨2,3,(.asg 2 (.meth "story" [(0,28)] (.loc 0) .nil) (.ifS (.or (.nt (.tst (.bi (.isin "list") (.cons (.loc 2) .nil)))) (.cmp .NotEq (.bi .len (.cons (.loc 2) .nil)) (.bi .len (.cons (.loc 1) .nil)))) (.ret (.con (D.bl false)) .nil) .nil (.ifS (.nt (.tst (.all (.comp 2 [] [0,1] (.zip (.loc 2) (.loc 1)) (.tst (.con (D.bl true))) (.call 7 0 (.cons (.loc 0) (.cons (.loc 1) .nil))))))) (.ret (.con (D.bl false)) .nil) .nil (.expr (.clr (.loc 2)) (.ret (.con (D.bl true)) .nil))))),none⟩
noncomputable def c_law_first:Fn:=⟨4,7,(.ifS (.cmp .Eq (.loc 0) (.loc 1)) (.ret (.loc 2) .nil) .nil (.asg 4 (.con (D.int 0)) (.forS [5,6] (.val (.loc 3)) (.ifS (.cmp .IsNot (.loc 6) (.con D.non)) (.asg 4 (.loc 6) .nil) .nil .nil) (.ret (.tup (.cons (.loc 4) (.cons (.con (D.int 0)) .nil))) .nil)))),none⟩
noncomputable def c_law:Fn:=⟨1,13,(.asg 1 (.tup (.cons (.bin .Add (.con (D.int 1)) (.bin .Mod (.call 6 0 (.cons (.loc 0) (.cons (.con (D.int 0)) .nil))) (.con (D.int 7)))) (.cons (.bin .Mod (.call 6 0 (.cons (.loc 0) (.cons (.con (D.int 1)) .nil))) (.con (D.int 6))) .nil))) (.asg 2 (.bin .Mod (.call 6 0 (.cons (.loc 0) (.cons (.con (D.int 2)) .nil))) (.ix (.loc 1) (.con (D.int 0)))) (.asg 3 (.bin .Mod (.call 6 0 (.cons (.loc 0) (.cons (.con (D.int 3)) .nil))) (.ix (.loc 1) (.con (D.int 0)))) (.asg 4 (.bin .Sub (.bin .Mod (.call 6 0 (.cons (.loc 0) (.cons (.con (D.int 4)) .nil))) (.bin .Sub (.bin .Mult (.con (D.int 2)) (.bin .Pow (.con (D.int 10)) (.con (D.int 60)))) (.con (D.int 1)))) (.bin .Sub (.bin .Pow (.con (D.int 10)) (.con (D.int 60))) (.con (D.int 1)))) (.asg 5 (.tup (.cons (.con D.non) (.cons (.con (D.int 0)) .nil))) (.ifS (.cmp .Eq (.loc 2) (.loc 3)) (.asg 5 (.tup (.cons (.loc 4) (.cons (.con (D.int 0)) .nil))) .nil) .nil (.asg 6 (.mk 0 19 "KingHand" (.cons (.loc 2) (.cons (.ix (.loc 1) (.con (D.int 0))) (.cons (.ix (.loc 1) (.con (D.int 1))) (.cons (.loc 3) (.cons (.ix (.loc 5) (.con (D.int 0))) .nil)))))) (.asg 7 (.con (D.int 6)) (.asg 8 (.lst .nil) (.forS [9] (.rng2 (.con (D.int 1)) (.bin .Add (.con (D.int 2)) (.bin .Mult (.con (D.int 3)) (.bin .Add (.ix (.loc 1) (.con (D.int 1))) (.con (D.int 1)))))) (.asg 10 (.or (.and (.cmp .Eq (.loc 9) (.con (D.int 1))) (.cmp .Eq (.loc 2) (.loc 3))) (.and (.cmp .Gt (.loc 9) (.con (D.int 1))) (.cmp .NotEq (.bin .Mod (.loc 9) (.con (D.int 3))) (.con (D.int 1))))) (.asg 10 (.or (.loc 10) (.and (.cmp .Gt (.loc 9) (.con (D.int 1))) (.cmp .Eq (.loc 2) (.bin .Mod (.bin .FloorDiv (.bin .Sub (.loc 9) (.con (D.int 2))) (.con (D.int 3))) (.ix (.loc 1) (.con (D.int 0))))))) (.ifS (.nt (.tst (.call 14 0 (.cons (.loc 6) (.cons (.loc 9) (.cons (.loc 2) (.cons (.ix (.loc 1) (.con (D.int 0))) (.cons (.ix (.loc 5) (.con (D.int 0))) (.cons (.loc 10) .nil))))))))) (.ret (.con (D.bl false)) .nil) .nil (.asg 11 (.call 12 0 (.cons (.loc 0) (.cons (.loc 7) (.cons (.call 10 0 (.cons (.loc 1) (.cons (.loc 2) (.cons (.loc 9) (.cons (.loc 3) .nil))))) (.cons (.ix (.loc 5) (.con (D.int 0))) (.cons (.loc 4) .nil)))))) (.asg 7 (.bin .Add (.loc 7) (.ix (.loc 1) (.con (D.int 0)))) (.asg 12 (.mkL (.val (.loc 11))) (.ifS (.or (.cmp .IsNot (.meth "hear" [(0,22)] (.loc 6) (.cons (.loc 9) (.cons (.loc 12) .nil))) (.con D.non)) (.cmp .NotEq (.loc 12) (.loc 11))) (.ret (.con (D.bl false)) .nil) .nil (.expr (.clr (.loc 12)) (.ifS (.cmp .Eq (.loc 9) (.con (D.int 1))) (.asg 5 (.call 17 0 (.cons (.loc 2) (.cons (.loc 3) (.cons (.loc 5) (.cons (.loc 11) .nil))))) .nil) (.asg 5 (.call 9 0 (.cons (.loc 1) (.cons (.loc 2) (.cons (.loc 9) (.cons (.loc 5) (.cons (.loc 11) .nil)))))) .nil) (.expr (.mt .append (.loc 8) (.cons (.ix (.loc 5) (.con (D.int 0))) .nil)) (.ifS (.nt (.tst (.call 16 0 (.cons (.loc 6) (.cons (.loc 8) .nil))))) (.ret (.con (D.bl false)) .nil) .nil .nil))))))))))) (.ifS (.cmp .Eq (.loc 2) (.loc 3)) (.expr (.mt .append (.loc 8) (.cons (.loc 4) .nil)) .nil) .nil (.ret (.and (.call 15 0 (.cons (.loc 6) (.cons (.loc 2) (.cons (.loc 1) .nil)))) (.call 7 0 (.cons (.meth "ending" [(0,21)] (.loc 6) .nil) (.cons (.ix (.loc 8) (.neg (.con (D.int 1)))) .nil)))) .nil)))))))))))),none⟩
noncomputable def c_KingHand_init:Fn:=⟨6,6,(.expr (.callC 30 "Hand" "__init__" (.cons (.loc 0) (.cons (.loc 1) (.cons (.loc 2) (.cons (.call 3 0 (.cons (.loc 3) .nil)) .nil))))) (.setF (.loc 0) "bound" (.loc 3) (.setF (.loc 0) "sender" (.loc 4) (.setF (.loc 0) "word" (.loc 5) (.setF (.loc 0) "held" (.loc 5) (.setF (.loc 0) "backing" (.con (D.int 0)) (.setF (.loc 0) "holdings" (.lst .nil) .nil))))))),none⟩
noncomputable def c_KingHand_all_words:Fn:=⟨2,2,(.ret (.bin .Add (.lst (.cons (.fld (.loc 0) "held") .nil)) (.mkL (.comp 2 [] [0,1] (.val (.loc 1)) (.tst (.con (D.bl true))) (.loc 1)))) .nil),none⟩
noncomputable def c_KingHand_ending:Fn:=⟨1,1,(.ret (.ite (.cmp .Eq (.fld (.loc 0) "number") (.fld (.loc 0) "sender")) (.fld (.loc 0) "word") (.fld (.loc 0) "held")) .nil),none⟩
noncomputable def c_KingHand_hear:Fn:=⟨3,3,(.ifS (.cmp .Eq (.loc 1) (.con (D.int 1))) (.expr (.meth "hear_sender" [(0,25)] (.loc 0) (.cons (.loc 2) .nil)) .nil) (.ifS (.cmp .Eq (.call 4 0 (.cons (.loc 1) .nil)) (.con (D.int 0))) (.setF (.loc 0) "held" (.call 2 0 (.cons (.meth "all_words" [(0,20)] (.loc 0) (.cons (.loc 2) .nil)) (.cons (.bi .max2 (.cons (.bin .Sub (.fld (.loc 0) "many") (.fld (.loc 0) "bound")) (.cons (.con (D.int 1)) .nil))) .nil))) .nil) (.ifS (.cmp .Eq (.call 4 0 (.cons (.loc 1) .nil)) (.con (D.int 1))) (.expr (.meth "hear_backing" [(0,23)] (.loc 0) (.cons (.loc 2) .nil)) .nil) (.expr (.meth "hear_king" [(0,24)] (.loc 0) (.cons (.loc 1) (.cons (.loc 2) .nil))) .nil) .nil) .nil) (.expr (.mt .append (.fld (.loc 0) "holdings") (.cons (.fld (.loc 0) "held") .nil)) .nil)),none⟩
noncomputable def c_KingHand_hear_backing:Fn:=⟨2,3,(.asg 2 (.meth "all_words" [(0,20)] (.loc 0) (.cons (.loc 1) .nil)) (.setF (.loc 0) "held" (.call 2 0 (.cons (.loc 2) (.cons (.bin .Add (.fld (.loc 0) "bound") (.con (D.int 1))) .nil))) (.setF (.loc 0) "backing" (.ite (.cmp .Is (.fld (.loc 0) "held") (.con D.non)) (.con (D.int 0)) (.call 0 0 (.cons (.loc 2) (.cons (.fld (.loc 0) "held") .nil)))) .nil))),none⟩
noncomputable def c_KingHand_hear_king:Fn:=⟨3,4,(.ifS (.and (.cmp .IsNot (.fld (.loc 0) "held") (.con D.non)) (.cmp .GtE (.fld (.loc 0) "backing") (.bin .Sub (.fld (.loc 0) "many") (.fld (.loc 0) "bound")))) (.retN .nil) .nil (.asg 3 (.meth "king_of" [(0,26)] (.loc 0) (.cons (.loc 1) .nil)) (.ifS (.cmp .NotEq (.fld (.loc 0) "number") (.loc 3)) (.setF (.loc 0) "held" (.call 5 0 (.cons (.loc 3) (.cons (.loc 2) .nil))) .nil) (.ifS (.cmp .Is (.fld (.loc 0) "held") (.con D.non)) (.setF (.loc 0) "held" (.con (D.int 0)) .nil) .nil .nil) .nil))),none⟩
noncomputable def c_KingHand_hear_sender:Fn:=⟨2,2,(.ifS (.cmp .NotEq (.fld (.loc 0) "number") (.fld (.loc 0) "sender")) (.setF (.loc 0) "held" (.call 5 0 (.cons (.fld (.loc 0) "sender") (.cons (.loc 1) .nil))) .nil) .nil .nil),none⟩
noncomputable def c_KingHand_king_of:Fn:=⟨2,2,(.ret (.bin .Mod (.bin .FloorDiv (.bin .Sub (.loc 1) (.con (D.int 2))) (.con (D.int 3))) (.fld (.loc 0) "many")) .nil),none⟩
noncomputable def c_KingHand_say:Fn:=⟨2,2,(.ifS (.cmp .NotIn (.fld (.loc 0) "number") (.meth "writers" [(0,29)] (.loc 0) (.cons (.loc 1) .nil))) (.ret (.lst .nil) .nil) .nil (.ret (.mkL (.comp 1 [0] [0] (.rng1 (.fld (.loc 0) "many")) (.cmp .NotEq (.loc 0) (.fld (.loc 1) "number")) (.tup (.cons (.tup (.cons (.fld (.loc 1) "number") .nil)) (.cons (.loc 0) (.cons (.fld (.loc 1) "held") .nil)))))) .nil)),none⟩
noncomputable def c_KingHand_story:Fn:=⟨1,1,(.ret (.mkL (.val (.fld (.loc 0) "holdings"))) .nil),none⟩
noncomputable def c_KingHand_writers:Fn:=⟨2,2,(.ifS (.cmp .Eq (.loc 1) (.con (D.int 1))) (.ret (.lst (.cons (.fld (.loc 0) "sender") .nil)) .nil) .nil (.ifS (.cmp .Eq (.call 4 0 (.cons (.loc 1) .nil)) (.con (D.int 2))) (.ret (.lst (.cons (.meth "king_of" [(0,26)] (.loc 0) (.cons (.loc 1) .nil)) .nil)) .nil) .nil (.ret (.mkL (.rng1 (.fld (.loc 0) "many"))) .nil))),none⟩
noncomputable def c_Hand_init:Fn:=⟨4,4,(.setF (.loc 0) "number" (.loc 1) (.setF (.loc 0) "many" (.loc 2) (.setF (.loc 0) "rounds" (.loc 3) .nil))),none⟩
noncomputable def prog:List Fn:=[c_times,c_tally,c_strong,c_rounds_for,c_step_of,c_word_from,c_law_cell_at,c_law_like,c_law_strong,c_law_step,c_law_writers,c_law_digit,c_law_letters,c_law_told,c_law_says,c_law_is_hand,c_law_storied,c_law_first,c_law,c_KingHand_init,c_KingHand_all_words,c_KingHand_ending,c_KingHand_hear,c_KingHand_hear_backing,c_KingHand_hear_king,c_KingHand_hear_sender,c_KingHand_king_of,c_KingHand_say,c_KingHand_story,c_KingHand_writers,c_Hand_init]
noncomputable def top (i:Nat):Stmt:=PySem.Challenge.pw_traitorround_k51_a_king_hand.main.body.getD i (.Pass ⟨0,0,0,0⟩)
noncomputable abbrev py_times:Stmt:=top 2
noncomputable abbrev py_tally:Stmt:=top 3
noncomputable abbrev py_strong:Stmt:=top 4
noncomputable abbrev py_rounds_for:Stmt:=top 9
noncomputable abbrev py_step_of:Stmt:=top 10
noncomputable abbrev py_word_from:Stmt:=top 11
noncomputable abbrev py_law_cell_at:Stmt:=top 13
noncomputable abbrev py_law_like:Stmt:=top 14
noncomputable abbrev py_law_strong:Stmt:=top 15
noncomputable abbrev py_law_step:Stmt:=top 16
noncomputable abbrev py_law_writers:Stmt:=top 17
noncomputable abbrev py_law_digit:Stmt:=top 18
noncomputable abbrev py_law_letters:Stmt:=top 19
noncomputable abbrev py_law_told:Stmt:=top 20
noncomputable abbrev py_law_says:Stmt:=top 21
noncomputable abbrev py_law_is_hand:Stmt:=top 22
noncomputable abbrev py_law_storied:Stmt:=top 23
noncomputable abbrev py_law_first:Stmt:=top 24
noncomputable abbrev py_law:Stmt:=top 25
noncomputable def inCls (s:Stmt) (j:Nat):Stmt:=match s with|.ClassDef _ _ _ b _ _ _ _ _ _ _=>b.getD j (.Pass ⟨0,0,0,0⟩)|s=>s
noncomputable abbrev py_KingHand_init:Stmt:=inCls (top 8) 0
noncomputable abbrev py_KingHand_all_words:Stmt:=inCls (top 8) 5
noncomputable abbrev py_KingHand_ending:Stmt:=inCls (top 8) 10
noncomputable abbrev py_KingHand_hear:Stmt:=inCls (top 8) 4
noncomputable abbrev py_KingHand_hear_backing:Stmt:=inCls (top 8) 7
noncomputable abbrev py_KingHand_hear_king:Stmt:=inCls (top 8) 8
noncomputable abbrev py_KingHand_hear_sender:Stmt:=inCls (top 8) 6
noncomputable abbrev py_KingHand_king_of:Stmt:=inCls (top 8) 3
noncomputable abbrev py_KingHand_say:Stmt:=inCls (top 8) 1
noncomputable abbrev py_KingHand_story:Stmt:=inCls (top 8) 9
noncomputable abbrev py_KingHand_writers:Stmt:=inCls (top 8) 2
noncomputable abbrev py_Hand_init:Stmt:=inCls (top 6) 0
noncomputable def tab:Tab:=⟨["all","bool","int","isinstance","len","list","max","range","sorted","tuple","zip"],[("STILL",(D.int 0))],[("times",["words","word"],0),("tally",["words"],0),("strong",["words","least"],0),("rounds_for",["bound"],0),("step_of",["turn"],0),("word_from",["writer","letters"],0),("_law_cell_at",["_law_script","_law_k"],0),("_law_like",["_law_found","_law_due"],0),("_law_strong",["_law_words","_law_least"],0),("_law_step",["_law_sizes","_law_number","_law_turn","_law_was","_law_letters_here"],0),("_law_writers",["_law_sizes","_law_number","_law_turn","_law_sender"],0),("_law_digit",["_law_script","_law_at","_law_k"],0),("_law_letters",["_law_script","_law_at","_law_writers_here","_law_held","_law_word"],0),("_law_told",["_law_found","_law_number","_law_many","_law_held","_law_writes"],0),("_law_says",["_law_hand","_law_turn","_law_number","_law_many","_law_held","_law_writes"],0),("_law_is_hand",["_law_hand","_law_number","_law_sizes"],0),("_law_storied",["_law_hand","_law_due"],0),("_law_first",["_law_number","_law_sender","_law_was","_law_letters_here"],0),("law",["_law_script"],0)],["KingHand"],["number","many","rounds","bound","sender","word","held","backing","holdings"],[(0,"all_words",20),(0,"ending",21),(0,"hear",22),(0,"hear_backing",23),(0,"hear_king",24),(0,"hear_sender",25),(0,"king_of",26),(0,"say",27),(0,"story",28),(0,"writers",29)],[(0,19)],[("Hand","__init__",30)],[("Hand",[0])]⟩
theorem sc_KingHand_init:FnScope ["self","number","many","bound","sender","word"] ["self","number","many","bound","sender","word"] (defScope py_KingHand_init):=⟨rfl,rfl,rfl,by decide +kernel,rfl,by decide +kernel,by decide +kernel⟩
theorem ck_KingHand_init:chkS tab c_KingHand_init.body ["self","number","many","bound","sender","word"] (defScope py_KingHand_init) (defBody py_KingHand_init)=true:=by decide +kernel
theorem sc_KingHand_all_words:FnScope ["self","letters"] ["self","letters"] (defScope py_KingHand_all_words):=⟨rfl,rfl,rfl,by decide +kernel,rfl,by decide +kernel,by decide +kernel⟩
theorem ck_KingHand_all_words:chkS tab c_KingHand_all_words.body ["self","letters"] (defScope py_KingHand_all_words) (defBody py_KingHand_all_words)=true:=by decide +kernel
theorem sc_KingHand_ending:FnScope ["self"] ["self"] (defScope py_KingHand_ending):=⟨rfl,rfl,rfl,by decide +kernel,rfl,by decide +kernel,by decide +kernel⟩
theorem ck_KingHand_ending:chkS tab c_KingHand_ending.body ["self"] (defScope py_KingHand_ending) (defBody py_KingHand_ending)=true:=by decide +kernel
theorem sc_KingHand_hear:FnScope ["self","turn","letters"] ["self","turn","letters"] (defScope py_KingHand_hear):=⟨rfl,rfl,rfl,by decide +kernel,rfl,by decide +kernel,by decide +kernel⟩
theorem ck_KingHand_hear:chkS tab c_KingHand_hear.body ["self","turn","letters"] (defScope py_KingHand_hear) (defBody py_KingHand_hear)=true:=by decide +kernel
theorem sc_KingHand_hear_backing:FnScope ["self","letters","words"] ["self","letters"] (defScope py_KingHand_hear_backing):=⟨rfl,rfl,rfl,by decide +kernel,rfl,by decide +kernel,by decide +kernel⟩
theorem ck_KingHand_hear_backing:chkS tab c_KingHand_hear_backing.body ["self","letters","words"] (defScope py_KingHand_hear_backing) (defBody py_KingHand_hear_backing)=true:=by decide +kernel
theorem sc_KingHand_hear_king:FnScope ["self","turn","letters","king"] ["self","turn","letters"] (defScope py_KingHand_hear_king):=⟨rfl,rfl,rfl,by decide +kernel,rfl,by decide +kernel,by decide +kernel⟩
theorem ck_KingHand_hear_king:chkS tab c_KingHand_hear_king.body ["self","turn","letters","king"] (defScope py_KingHand_hear_king) (defBody py_KingHand_hear_king)=true:=by decide +kernel
theorem sc_KingHand_hear_sender:FnScope ["self","letters"] ["self","letters"] (defScope py_KingHand_hear_sender):=⟨rfl,rfl,rfl,by decide +kernel,rfl,by decide +kernel,by decide +kernel⟩
theorem ck_KingHand_hear_sender:chkS tab c_KingHand_hear_sender.body ["self","letters"] (defScope py_KingHand_hear_sender) (defBody py_KingHand_hear_sender)=true:=by decide +kernel
theorem sc_KingHand_king_of:FnScope ["self","turn"] ["self","turn"] (defScope py_KingHand_king_of):=⟨rfl,rfl,rfl,by decide +kernel,rfl,by decide +kernel,by decide +kernel⟩
theorem ck_KingHand_king_of:chkS tab c_KingHand_king_of.body ["self","turn"] (defScope py_KingHand_king_of) (defBody py_KingHand_king_of)=true:=by decide +kernel
theorem sc_KingHand_say:FnScope ["self","turn"] ["self","turn"] (defScope py_KingHand_say):=⟨rfl,rfl,rfl,by decide +kernel,rfl,by decide +kernel,by decide +kernel⟩
theorem ck_KingHand_say:chkS tab c_KingHand_say.body ["self","turn"] (defScope py_KingHand_say) (defBody py_KingHand_say)=true:=by decide +kernel
theorem sc_KingHand_story:FnScope ["self"] ["self"] (defScope py_KingHand_story):=⟨rfl,rfl,rfl,by decide +kernel,rfl,by decide +kernel,by decide +kernel⟩
theorem ck_KingHand_story:chkS tab c_KingHand_story.body ["self"] (defScope py_KingHand_story) (defBody py_KingHand_story)=true:=by decide +kernel
theorem sc_KingHand_writers:FnScope ["self","turn"] ["self","turn"] (defScope py_KingHand_writers):=⟨rfl,rfl,rfl,by decide +kernel,rfl,by decide +kernel,by decide +kernel⟩
theorem ck_KingHand_writers:chkS tab c_KingHand_writers.body ["self","turn"] (defScope py_KingHand_writers) (defBody py_KingHand_writers)=true:=by decide +kernel
theorem sc_Hand_init:FnScope ["self","number","many","rounds"] ["self","number","many","rounds"] (defScope py_Hand_init):=⟨rfl,rfl,rfl,by decide +kernel,rfl,by decide +kernel,by decide +kernel⟩
theorem ck_Hand_init:chkS tab c_Hand_init.body ["self","number","many","rounds"] (defScope py_Hand_init) (defBody py_Hand_init)=true:=by decide +kernel
theorem sc_times:FnScope ["words","word"] ["words","word"] (defScope py_times):=⟨rfl,rfl,rfl,by decide +kernel,rfl,by decide +kernel,by decide +kernel⟩
theorem ck_times:chkS tab c_times.body ["words","word"] (defScope py_times) (defBody py_times)=true:=by decide +kernel
theorem ts_tally:TallySt py_tally:=⟨⟨_,_,_,_,_,_,_,_,_,_,_,_,_,_,_,_,_,_,_,_,_,_,_,_,_,_,_,_,_,_,_,_,rfl,rfl,rfl,fun _=>rfl,fun _=>rfl,⟨rfl,rfl,rfl,by decide +kernel,rfl,by decide +kernel,by decide +kernel⟩,by decide +kernel,fun _ _ _ _ _=>rfl⟩,⟨rfl,rfl,rfl,by decide +kernel,rfl,by decide +kernel,by decide +kernel⟩,rfl,rfl,rfl,rfl⟩
theorem sc_strong:FnScope ["words","least","rows"] ["words","least"] (defScope py_strong):=⟨rfl,rfl,rfl,by decide +kernel,rfl,by decide +kernel,by decide +kernel⟩
theorem ck_strong:chkS tab c_strong.body ["words","least","rows"] (defScope py_strong) (defBody py_strong)=true:=by decide +kernel
theorem sc_rounds_for:FnScope ["bound"] ["bound"] (defScope py_rounds_for):=⟨rfl,rfl,rfl,by decide +kernel,rfl,by decide +kernel,by decide +kernel⟩
theorem ck_rounds_for:chkS tab c_rounds_for.body ["bound"] (defScope py_rounds_for) (defBody py_rounds_for)=true:=by decide +kernel
theorem sc_step_of:FnScope ["turn"] ["turn"] (defScope py_step_of):=⟨rfl,rfl,rfl,by decide +kernel,rfl,by decide +kernel,by decide +kernel⟩
theorem ck_step_of:chkS tab c_step_of.body ["turn"] (defScope py_step_of) (defBody py_step_of)=true:=by decide +kernel
theorem sc_word_from:FnScope ["writer","letters","path","word"] ["writer","letters"] (defScope py_word_from):=⟨rfl,rfl,rfl,by decide +kernel,rfl,by decide +kernel,by decide +kernel⟩
theorem ck_word_from:chkS tab c_word_from.body ["writer","letters","path","word"] (defScope py_word_from) (defBody py_word_from)=true:=by decide +kernel
theorem sc_law_cell_at:FnScope ["_law_script","_law_k"] ["_law_script","_law_k"] (defScope py_law_cell_at):=⟨rfl,rfl,rfl,by decide +kernel,rfl,by decide +kernel,by decide +kernel⟩
theorem ck_law_cell_at:chkS tab c_law_cell_at.body ["_law_script","_law_k"] (defScope py_law_cell_at) (defBody py_law_cell_at)=true:=by decide +kernel
theorem sc_law_like:FnScope ["_law_found","_law_due"] ["_law_found","_law_due"] (defScope py_law_like):=⟨rfl,rfl,rfl,by decide +kernel,rfl,by decide +kernel,by decide +kernel⟩
theorem ck_law_like:chkS tab c_law_like.body ["_law_found","_law_due"] (defScope py_law_like) (defBody py_law_like)=true:=by decide +kernel
theorem sc_law_strong:FnScope ["_law_words","_law_least","_law_best","_law_often","_law_word","_law_many"] ["_law_words","_law_least"] (defScope py_law_strong):=⟨rfl,rfl,rfl,by decide +kernel,rfl,by decide +kernel,by decide +kernel⟩
theorem ck_law_strong:chkS tab c_law_strong.body ["_law_words","_law_least","_law_best","_law_often","_law_word","_law_many"] (defScope py_law_strong) (defBody py_law_strong)=true:=by decide +kernel
theorem sc_law_step:FnScope ["_law_sizes","_law_number","_law_turn","_law_was","_law_letters_here","_law_many","_law_bound","_law_held","_law_backing","_law_words","_law_king","_law_path","_law_word"] ["_law_sizes","_law_number","_law_turn","_law_was","_law_letters_here"] (defScope py_law_step):=⟨rfl,rfl,rfl,by decide +kernel,rfl,by decide +kernel,by decide +kernel⟩
theorem ck_law_step:chkS tab c_law_step.body ["_law_sizes","_law_number","_law_turn","_law_was","_law_letters_here","_law_many","_law_bound","_law_held","_law_backing","_law_words","_law_king","_law_path","_law_word"] (defScope py_law_step) (defBody py_law_step)=true:=by decide +kernel
theorem sc_law_writers:FnScope ["_law_sizes","_law_number","_law_turn","_law_sender"] ["_law_sizes","_law_number","_law_turn","_law_sender"] (defScope py_law_writers):=⟨rfl,rfl,rfl,by decide +kernel,rfl,by decide +kernel,by decide +kernel⟩
theorem ck_law_writers:chkS tab c_law_writers.body ["_law_sizes","_law_number","_law_turn","_law_sender"] (defScope py_law_writers) (defBody py_law_writers)=true:=by decide +kernel
theorem sc_law_digit:FnScope ["_law_script","_law_at","_law_k","_law_cell","_law_j"] ["_law_script","_law_at","_law_k"] (defScope py_law_digit):=⟨rfl,rfl,rfl,by decide +kernel,rfl,by decide +kernel,by decide +kernel⟩
theorem ck_law_digit:chkS tab c_law_digit.body ["_law_script","_law_at","_law_k","_law_cell","_law_j"] (defScope py_law_digit) (defBody py_law_digit)=true:=by decide +kernel
theorem sc_law_letters:FnScope ["_law_script","_law_at","_law_writers_here","_law_held","_law_word","_law_letters_here","_law_seed","_law_k","_law_cell","_law_rest","_law_some","_law_digit_here"] ["_law_script","_law_at","_law_writers_here","_law_held","_law_word"] (defScope py_law_letters):=⟨rfl,rfl,rfl,by decide +kernel,rfl,by decide +kernel,by decide +kernel⟩
theorem ck_law_letters:chkS tab c_law_letters.body ["_law_script","_law_at","_law_writers_here","_law_held","_law_word","_law_letters_here","_law_seed","_law_k","_law_cell","_law_rest","_law_some","_law_digit_here"] (defScope py_law_letters) (defBody py_law_letters)=true:=by decide +kernel
theorem sc_law_told:FnScope ["_law_found","_law_number","_law_many","_law_held","_law_writes","_law_due","_law_row","_law_right"] ["_law_found","_law_number","_law_many","_law_held","_law_writes"] (defScope py_law_told):=⟨rfl,rfl,rfl,by decide +kernel,rfl,by decide +kernel,by decide +kernel⟩
theorem ck_law_told:chkS tab c_law_told.body ["_law_found","_law_number","_law_many","_law_held","_law_writes","_law_due","_law_row","_law_right"] (defScope py_law_told) (defBody py_law_told)=true:=by decide +kernel
theorem sc_law_says:FnScope ["_law_hand","_law_turn","_law_number","_law_many","_law_held","_law_writes","_law_found"] ["_law_hand","_law_turn","_law_number","_law_many","_law_held","_law_writes"] (defScope py_law_says):=⟨rfl,rfl,rfl,by decide +kernel,rfl,by decide +kernel,by decide +kernel⟩
theorem ck_law_says:chkS tab c_law_says.body ["_law_hand","_law_turn","_law_number","_law_many","_law_held","_law_writes","_law_found"] (defScope py_law_says) (defBody py_law_says)=true:=by decide +kernel
theorem sc_law_is_hand:FnScope ["_law_hand","_law_number","_law_sizes"] ["_law_hand","_law_number","_law_sizes"] (defScope py_law_is_hand):=⟨rfl,rfl,rfl,by decide +kernel,rfl,by decide +kernel,by decide +kernel⟩
theorem ck_law_is_hand:chkS tab c_law_is_hand.body ["_law_hand","_law_number","_law_sizes"] (defScope py_law_is_hand) (defBody py_law_is_hand)=true:=by decide +kernel
theorem sc_law_storied:FnScope ["_law_hand","_law_due","_law_story"] ["_law_hand","_law_due"] (defScope py_law_storied):=⟨rfl,rfl,rfl,by decide +kernel,rfl,by decide +kernel,by decide +kernel⟩
theorem ck_law_storied:chkS tab c_law_storied.body ["_law_hand","_law_due","_law_story"] (defScope py_law_storied) (defBody py_law_storied)=true:=by decide +kernel
theorem sc_law_first:FnScope ["_law_number","_law_sender","_law_was","_law_letters_here","_law_held","_law_path","_law_word"] ["_law_number","_law_sender","_law_was","_law_letters_here"] (defScope py_law_first):=⟨rfl,rfl,rfl,by decide +kernel,rfl,by decide +kernel,by decide +kernel⟩
theorem ck_law_first:chkS tab c_law_first.body ["_law_number","_law_sender","_law_was","_law_letters_here","_law_held","_law_path","_law_word"] (defScope py_law_first) (defBody py_law_first)=true:=by decide +kernel
theorem sc_law:FnScope ["_law_script","_law_sizes","_law_number","_law_sender","_law_word","_law_was","_law_hand","_law_at","_law_due","_law_turn","_law_writes","_law_letters_here","_law_handed"] ["_law_script"] (defScope py_law):=⟨rfl,rfl,rfl,by decide +kernel,rfl,by decide +kernel,by decide +kernel⟩
theorem ck_law:chkS tab c_law.body ["_law_script","_law_sizes","_law_number","_law_sender","_law_word","_law_was","_law_hand","_law_at","_law_due","_law_turn","_law_writes","_law_letters_here","_law_handed"] (defScope py_law) (defBody py_law)=true:=by decide +kernel
end
section
open R
noncomputable def hD (m b i s:Int) (w h:Option Int) (k:Int) (l:Nat):MO:=.ins 0 [("number",.int i),("many",.int m),("rounds",.int (1+3 * (b+1))),("bound",.int b),("sender",.int s),("word",oD w),("held",oD h),("backing",.int k),("holdings",.ref l)]
section
variable {S:R.St} {a l:Nat} {m b i s k:Int} {w h:Option Int}
theorem insOf_of {c:Nat} {fs:List (PySem.Str × D)} (e:S.get a=some (.ins c fs)):insOf S (.ref a)=some (c,fs):=by
 unfold insOf;dsimp only;rw [e]
theorem fld_of {c:Nat} {fs:List (PySem.Str × D)} {f:PySem.Str} {v:D} (e:S.get a=some (.ins c fs)) (g:fs.lookup f=some v):((insOf S (.ref a)).bind fun p=>p.2.lookup f)=some v:=by
 rw [insOf_of e];exact g
theorem f_number (e:S.get a=some (hD m b i s w h k l)):((insOf S (.ref a)).bind fun p=>p.2.lookup ("number":PySem.Str))=some (.int i):=fld_of e rfl
theorem f_many (e:S.get a=some (hD m b i s w h k l)):((insOf S (.ref a)).bind fun p=>p.2.lookup ("many":PySem.Str))=some (.int m):=fld_of e rfl
theorem f_rounds (e:S.get a=some (hD m b i s w h k l)):((insOf S (.ref a)).bind fun p=>p.2.lookup ("rounds":PySem.Str))=some (.int (1+3 * (b+1))):=fld_of e rfl
theorem f_bound (e:S.get a=some (hD m b i s w h k l)):((insOf S (.ref a)).bind fun p=>p.2.lookup ("bound":PySem.Str))=some (.int b):=fld_of e rfl
theorem f_sender (e:S.get a=some (hD m b i s w h k l)):((insOf S (.ref a)).bind fun p=>p.2.lookup ("sender":PySem.Str))=some (.int s):=fld_of e rfl
theorem f_word (e:S.get a=some (hD m b i s w h k l)):((insOf S (.ref a)).bind fun p=>p.2.lookup ("word":PySem.Str))=some (oD w):=fld_of e rfl
theorem f_held (e:S.get a=some (hD m b i s w h k l)):((insOf S (.ref a)).bind fun p=>p.2.lookup ("held":PySem.Str))=some (oD h):=fld_of e rfl
theorem f_backing (e:S.get a=some (hD m b i s w h k l)):((insOf S (.ref a)).bind fun p=>p.2.lookup ("backing":PySem.Str))=some (.int k):=fld_of e rfl
theorem f_holdings (e:S.get a=some (hD m b i s w h k l)):((insOf S (.ref a)).bind fun p=>p.2.lookup ("holdings":PySem.Str))=some (.ref l):=fld_of e rfl
theorem appW_X {P:List Fn} {F:Fn} {f n:Nat} {ds:List D} {S:R.St} {Q:D->R.St->Prop} (h:P[f]?=some F) (hl:ds.length=F.np) (w:W (exS (callF P n) F.body (startE F ds) S) fun r T=>match r with|.nx _=>Q .non T|.rt d=>Q d T) (hp:F.prim=none:=by rfl):W (appW (callF P (n+1)) f ds S) Q:=by
 unfold appW
 simp only [callF,h,hl,hp,if_true,W_bind]
 refine w.mono fun r T q=>?_
 cases r<;>exact q
theorem appW_ok {P:List Fn} {F:Fn} {f n:Nat} {ds:List D} {S S':R.St} {d:D} (h:P[f]?=some F) (hl:ds.length=F.np) (w:wS (callF P n) F.body (startE F ds) S fun r T=>match r with|.nx _=>D.non=d/\T=S'|.rt z=>z=d/\T=S') (hp:F.prim=none:=by rfl):appW (callF P (n+1)) f ds S=.ok d S':=by
 refine W.eq (appW_X h hl ((wS_W _ w).mono fun r T q=>?_) hp)
 cases r<;>exact q
noncomputable def kingZ (m t:Int):Int:=(t - 2) / 3 % m
theorem m_king {n:Nat} {t:Int} (e:S.get a=some (hD m b i s w h k l)) (hm:0<m):appW (callF prog (n+1)) 26 [.ref a,.int t] S=.ok (.int (kingZ m t)) S:=by
 refine appW_ok (F:=c_KingHand_king_of) rfl rfl ?_
 conv=>whnf
 repeat (first|(refine wNeed_of (by first|decide|omega|(simp;done)|(simp;omega)) ?_;conv=>whnf)|(refine wGet_new rfl ?_;conv=>whnf)|(refine wPut_new rfl ?_;conv=>whnf)|(refine wGet_old (by assumption) ?_;conv=>whnf))
 refine wOpt_of (f_many e) ?_
 conv=>whnf
 refine wNeed_of hm ?_
 conv=>whnf
 exact ⟨rfl,rfl⟩
theorem s_step {n:Nat} {t:Int}:app (callF prog (n+1)) 4 [.int t] S=.ok (.int ((t - 2) % 3)) S:=by
 refine app_ok (F:=c_step_of) rfl rfl ?_
 conv=>whnf
 repeat (first|(refine wNeed_of (by first|decide|omega|(simp;done)|(simp;omega)) ?_;conv=>whnf)|(refine wGet_new rfl ?_;conv=>whnf)|(refine wPut_new rfl ?_;conv=>whnf)|(refine wGet_old (by assumption) ?_;conv=>whnf))
 exact wFin_flat rfl ⟨rfl,rfl⟩
noncomputable def wrZ (m s t:Int):List Int:=if t=1 then [s] else if (t - 2) % 3=2 then [kingZ m t] else (List.range m.toNat).map fun (k:Nat)=>(k:Int)
theorem m_writers {n:Nat} {t:Int} (e:S.get a=some (hD m b i s w h k l)) (hm:0<m) (hm7:m<=7):appW (callF prog (n+2)) 29 [.ref a,.int t] S=.ok (.ref S.len) (S.push (.lst ((wrZ m s t).map .int))):=by
 refine appW_ok (F:=c_KingHand_writers) rfl rfl ?_
 unfold wrZ
 conv=>whnf
 refine wIf_p (fun c1=>?_) (fun c1=>?_)
 · conv=>whnf
   refine wOpt_of (f_sender e) ?_
   conv=>whnf
   refine wNeed_of (by first|decide|omega|(simp;done)|(simp;omega)) ?_
   conv=>whnf
   rw [if_pos c1]
   exact ⟨rfl,rfl⟩
 · rw [if_neg c1]
   conv=>whnf
   refine wOut_of (s_step (n:=n)) ?_
   conv=>whnf
   refine wIf_p (fun c2=>?_) (fun c2=>?_)
   · rw [if_pos c2]
     conv=>whnf
     refine wOpt_of (insOf_of e) ?_
     conv=>whnf
     refine wOpt_of (rfl) ?_
     conv=>whnf
     refine wNeed_of rfl ?_
     conv=>whnf
     refine wOut_of (m_king (n:=n) e hm) ?_
     conv=>whnf
     refine wNeed_of (by first|decide|omega|(simp;done)|(simp;omega)) ?_
     conv=>whnf
     exact ⟨rfl,rfl⟩
   · rw [if_neg c2]
     conv=>whnf
     refine wOpt_of (f_many e) ?_
     conv=>whnf
     refine wNeed_of (by omega) ?_
     conv=>whnf
     refine wNeed_of (by simp;omega) ?_
     conv=>whnf
     rw [List.map_map]
     exact ⟨rfl,rfl⟩
end
section
variable {S:R.St} {a l:Nat} {m b i s k:Int} {w h:Option Int}
noncomputable def rwD (i:Int) (h:Option Int) (o:Int):D:=.tup [.tup [.int i],.int o,oD h]
noncomputable def rg (m:Int):List Int:=(List.range m.toNat).map fun (k:Nat)=>(k:Int)
noncomputable def sayL (m i:Int) (h:Option Int) (y:Bool):List D:=if y then ((rg m).filter fun o=>!decide (o=i)).map (rwD i h) else []
noncomputable def sayS (S:R.St) (m i s t:Int):R.St:=S.push (.lst ((wrZ m s t).map .int))
theorem filter_ints (p:Int->Bool) (f:Int->D) (q:D->Bool) (g:D->D) (h1:∀o,q (.int o)=p o) (h2:∀o,g (.int o)=f o):∀xs:List Int,((xs.map D.int).filter q).map g=(xs.filter p).map f
 | []=>rfl
 | x :: xs => by
   rw [List.map_cons,List.filter_cons,List.filter_cons,h1]
   cases p x with
   |true=>simp only [if_true,List.map_cons,h2];rw [filter_ints p f q g h1 h2 xs]
   |false=>simpa using filter_ints p f q g h1 h2 xs
theorem m_say {n:Nat} {t:Int} (e:S.get a=some (hD m b i s w h k l)) (hm:0<m) (hm7:m<=7):appW (callF prog (n+3)) 27 [.ref a,.int t] S=.ok (.ref (sayS S m i s t).len) ((sayS S m i s t).push (.lst (sayL m i h (decide (i∈wrZ m s t))))):=by
 refine appW_ok (F:=c_KingHand_say) rfl rfl ?_
 have e1:(sayS S m i s t).get a=some (hD m b i s w h k l):=push_old e
 conv=>whnf
 refine wOpt_of (f_number e) ?_
 conv=>whnf
 refine wOpt_of (insOf_of e) ?_
 conv=>whnf
 refine wOpt_of (rfl) ?_
 conv=>whnf
 refine wNeed_of rfl ?_
 conv=>whnf
 refine wOut_of (m_writers (n:=n) e hm hm7) ?_
 conv=>whnf
 refine wOpt_of (notIn_lst (push_get _ _) i) ?_
 conv=>whnf
 unfold sayL
 refine wIf_i (fun c=>?_) (fun c=>?_)
 · rw [Bool.not_eq_true'] at c
   rw [c]
   conv=>whnf
   refine wNeed_of (by first|decide|omega|(simp;done)|(simp;omega)) ?_
   conv=>whnf
   exact ⟨rfl,rfl⟩
 · rw [Bool.not_eq_false'] at c
   rw [c]
   conv=>whnf
   refine wOpt_of (f_many e1) ?_
   conv=>whnf
   refine wNeed_of (by omega) ?_
   conv=>whnf
   refine wLock_of ?_
   refine W.of (turnsC_pure (fun d=>match d with|.int o=>!decide (o=i)|_=>false) (fun d=>match d with|.int o=>rwD i h o|d=>d) _ none (fun z hz=>?_) (fun z hz _=>?_)) ?_
   · obtain ⟨o,_,rfl⟩:=List.mem_map.mp hz
     refine W.eq (wT_W _ ?_)
     conv=>whnf
     refine wOpt_of (f_number e1) ?_
     conv=>whnf
     exact ⟨rfl,rfl⟩
   · obtain ⟨o,_,rfl⟩:=List.mem_map.mp hz
     refine W.eq (wE_W _ ?_)
     conv=>whnf
     refine wOpt_of (f_number e1) ?_
     conv=>whnf
     refine wNeed_of (by first|decide|omega|(simp;done)|(simp;omega)) ?_
     conv=>whnf
     refine wOpt_of (f_held e1) ?_
     conv=>whnf
     refine wNeed_of (by first|decide|omega|(simp;done)|(simp;omega)) ?_
     conv=>whnf
     exact ⟨rfl,rfl⟩
   · have hx:((List.range m.toNat).map fun (k:Nat)=>D.int (k:Int))=(rg m).map .int:=by unfold rg;rw [List.map_map];rfl
     rw [hx,filter_ints (fun o=>!decide (o=i)) (rwD i h) _ _ (fun o=>rfl) (fun o=>rfl)]
     have hl:(((rg m).filter fun o=>!decide (o=i)).map (rwD i h)).length<=7:=by
      rw [List.length_map]
      refine Nat.le_trans (List.length_filter_le _ _) ?_
      unfold rg
      rw [List.length_map,List.length_range]
      omega
     refine wNeed_of (Nat.le_trans hl (by decide)) ?_
     conv=>whnf
     refine wNeed_of (Nat.le_trans hl (by decide)) ?_
     conv=>whnf
     exact ⟨rfl,rfl⟩
noncomputable def ltD (x:Int × Option Int):D:=.tup [.tup [.int x.1],oD x.2]
theorem turnsC_words {cf:CF} {T:R.St}:∀(Ls:List (Int × Option Int)) (u v:Option D),turnsC [0,1] (evT cf (.tst (.con (.bl true)))) (evE cf (.loc 1)) (Ls.map ltD) [u,v] T=.ok ((Ls.map (·.2)).map oD) T
 | [],u,v=>rfl
 | x :: Ls, u, v => by
   have ih:=turnsC_words (cf:=cf) (T:=T) Ls (some (.tup [.int x.1])) (some (oD x.2))
   simp only [List.map_cons,ltD,turnsC,asgG,asgAll,List.length_cons,List.length_nil,if_true,List.set_cons_zero,List.set_cons_succ]
   show Out.bind (.ok true T) _=_
   rw [bind_ok,if_pos rfl]
   show Out.bind (.ok (oD x.2) T) _=_
   rw [bind_ok,ih,bind_ok]
noncomputable def wsZ (h:Option Int) (Ls:List (Int × Option Int)):List (Option Int):=h::Ls.map (·.2)
noncomputable def awS (S:R.St) (h:Option Int) (Ls:List (Int × Option Int)):R.St:=(S.push (.lst [oD h])).push (.lst ((Ls.map (·.2)).map oD))
theorem m_words {n q:Nat} {Ls:List (Int × Option Int)} (e:S.get a=some (hD m b i s w h k l)) (eq:S.get q=some (.lst (Ls.map ltD))) (hl:Ls.length<=10):appW (callF prog (n+1)) 20 [.ref a,.ref q] S=.ok (.ref (awS S h Ls).len) ((awS S h Ls).push (.lst ((wsZ h Ls).map oD))):=by
 refine appW_ok (F:=c_KingHand_all_words) rfl rfl ?_
 conv=>whnf
 refine wOpt_of (f_held e) ?_
 conv=>whnf
 refine wNeed_of (by first|decide|omega|(simp;done)|(simp;omega)) ?_
 conv=>whnf
 refine wOpt_of (push_old eq) ?_
 conv=>whnf
 refine wLock_of ?_
 refine W.of (turnsC_words Ls none none) ?_
 refine wNeed_of (by simp only [List.length_map];omega) ?_
 conv=>whnf
 refine wNeed_of (by simp only [List.length_map];omega) ?_
 conv=>whnf
 refine wOpt_of (push_old (push_get _ _)) ?_
 conv=>whnf
 refine wOpt_of (push_get _ _) ?_
 conv=>whnf
 refine wNeed_of (by simp only [List.length_append,List.length_map,List.length_cons,List.length_nil];omega) ?_
 conv=>whnf
 exact ⟨rfl,rfl⟩
theorem m_story {n:Nat} {ws:List (Option Int)} (e:S.get a=some (hD m b i s w h k l)) (el:S.get l=some (.lst (ws.map oD))) (hl:ws.length<=1000):appW (callF prog (n+1)) 28 [.ref a] S=.ok (.ref S.len) (S.push (.lst (ws.map oD))):=by
 refine appW_ok (F:=c_KingHand_story) rfl rfl ?_
 conv=>whnf
 refine wOpt_of (f_holdings e) ?_
 conv=>whnf
 refine wOpt_of (el) ?_
 conv=>whnf
 refine wNeed_of (by simp only [List.length_map];omega) ?_
 conv=>whnf
 exact ⟨rfl,rfl⟩
theorem m_ending {n:Nat} (e:S.get a=some (hD m b i s w h k l)):appW (callF prog (n+1)) 21 [.ref a] S=.ok (oD (if i=s then w else h)) S:=by
 refine appW_ok (F:=c_KingHand_ending) rfl rfl ?_
 conv=>whnf
 refine wOpt_of (f_number e) ?_
 conv=>whnf
 refine wOpt_of (f_sender e) ?_
 conv=>whnf
 refine wIf_p (fun c=>?_) (fun c=>?_)
 · rw [if_pos c]
   conv=>whnf
   refine wOpt_of (f_word e) ?_
   conv=>whnf
   exact ⟨rfl,rfl⟩
 · rw [if_neg c]
   conv=>whnf
   refine wOpt_of (f_held e) ?_
   conv=>whnf
   exact ⟨rfl,rfl⟩
end
noncomputable def topR (os:List (Option Int)):Int × Int:=match tallyL (countsFrom [] os) with|r::_=>r | []=>(0,0)
noncomputable def strR (os:List (Option Int)) (k:Int):D:=match tallyL (countsFrom [] os) with|r::_=>if k<=r.2 then .int r.1 else .non | []=>.non
theorem s_strong {n l:Nat} {S:R.St} {os:List (Option Int)} {k:Int} (h:S.get l=some (.lst (os.map oD))) (hc:(countsFrom [] os).length<64) (hl:os.length<=16777216):app (callF prog (n+5)) 2 [.ref l,.int k] S=.ok (strR os k) S:=by
 refine app_ok (F:=c_strong) rfl rfl ?_
 conv=>whnf
 refine wOut_of (app_tally (n:=n) (f:=1) (F:=c_tally) (S:=S.enter) rfl rfl rfl (by rw [get_enter];exact h) hc hl) ?_
 conv=>whnf
 unfold talD strR
 generalize tallyL (countsFrom [] os)=rows
 cases rows with
 | nil =>
   conv=>whnf
   repeat (first|(refine wNeed_of (by first|decide|omega|(simp;done)|(simp;omega)) ?_;conv=>whnf)|(refine wGet_new rfl ?_;conv=>whnf)|(refine wPut_new rfl ?_;conv=>whnf)|(refine wGet_old (by assumption) ?_;conv=>whnf))
   exact wFin_flat rfl ⟨rfl,rfl⟩
 | cons r rows =>
   conv=>whnf
   repeat (first|(refine wNeed_of (by first|decide|omega|(simp;done)|(simp;omega)) ?_;conv=>whnf)|(refine wGet_new rfl ?_;conv=>whnf)|(refine wPut_new rfl ?_;conv=>whnf)|(refine wGet_old (by assumption) ?_;conv=>whnf))
   refine wOpt_of (atI_0 (x:=rowD r)) ?_
   conv=>whnf
   refine wOpt_of (atI_1) ?_
   conv=>whnf
   refine wIf_p (fun c=>?_) (fun c=>?_)
   · conv=>whnf
     repeat (first|(refine wNeed_of (by first|decide|omega|(simp;done)|(simp;omega)) ?_;conv=>whnf)|(refine wGet_new rfl ?_;conv=>whnf)|(refine wPut_new rfl ?_;conv=>whnf)|(refine wGet_old (by assumption) ?_;conv=>whnf))
     refine wOpt_of (atI_0 (x:=rowD r)) ?_
     conv=>whnf
     refine wOpt_of (atI_0) ?_
     conv=>whnf
     exact wFin_flat rfl ⟨by dsimp only;rw [if_pos c],rfl⟩
   · conv=>whnf
     exact wFin_flat rfl ⟨by dsimp only;rw [if_neg c],rfl⟩
noncomputable def bstep (os:List (Option Int)) (b:Int × Int) (o:Option Int):Int × Int:=match o with
 |some w=>if b.2<cntZ os (some w)\/(cntZ os (some w)=b.2/\w<b.1) then (w,cntZ os (some w)) else b
 |none=>b
noncomputable def bestZ (os:List (Option Int)):Int × Int:=os.foldl (bstep os) (0,0)
theorem best_nonneg (os:List (Option Int)):∀(xs:List (Option Int)) (b:Int × Int),0<=b.2->0<=(xs.foldl (bstep os) b).2
 | [],_,h=>h
 | o :: xs, b, h => best_nonneg os xs _ (by
   unfold bstep
   cases o with
   |none=>exact h
   | some w =>
     dsimp only
     split
     · unfold cntZ;simp
     · exact h)
theorem cnt_nat (os:List (Option Int)) (w:Int):cntZ os (some w)=(os.count (some w):Nat):=rfl
noncomputable def IsB (os xs:List (Option Int)) (b:Int × Int):Prop:=((∀x,some x∉xs)/\b=(0,0))\/(some b.1∈xs/\b.2=cntZ os (some b.1)/\∀x,some x∈xs->cntZ os (some x)<b.2\/(cntZ os (some x)=b.2/\b.1<=x))
theorem isB_step {os xs:List (Option Int)} {b:Int × Int} {o:Option Int} (h:IsB os xs b) (ho:o∈os):IsB os (xs++[o]) (bstep os b o):=by
 cases o with
 | none =>
   rcases h with ⟨h1,h2⟩|⟨h1,h2,h3⟩
   · exact .inl ⟨fun x hx=>by simp at hx;exact h1 x hx,h2⟩
   · exact .inr ⟨List.mem_append_left _ h1,h2,fun x hx=>h3 x (by simpa using hx)⟩
 | some w =>
   have wp:=cnt_pos ho
   right
   unfold bstep
   dsimp only
   split
   · rename_i c
     refine ⟨by simp,rfl,fun x hx=>?_⟩
     rcases List.mem_append.mp hx with z|z
     · rcases h with ⟨h1,_⟩|⟨h1,h2,h3⟩
       · exact absurd z (h1 x)
       · have:=h3 x z
         dsimp only
         omega
     · simp at z;subst z
       exact .inr ⟨rfl,Int.le_refl _⟩
   · rename_i c
     rcases h with ⟨h1,h2⟩|⟨h1,h2,h3⟩
     · subst h2
       exact absurd (.inl wp) c
     · refine ⟨List.mem_append_left _ h1,h2,fun x hx=>?_⟩
       rcases List.mem_append.mp hx with z|z
       · exact h3 x z
       · simp at z;subst z
         omega
theorem isB_fold {os:List (Option Int)}:∀(ys xs:List (Option Int)) (b:Int × Int),IsB os xs b->(∀o∈ys,o∈os)->IsB os (xs++ys) (ys.foldl (bstep os) b)
 | [],xs,b,h,_=>by simpa using h
 | o :: ys, xs, b, h, hs => by
   have:=isB_fold ys (xs++[o]) _ (isB_step h (hs o (by simp))) fun p hp=>hs p (by simp [hp])
   simpa using this
theorem best_is (os:List (Option Int)):IsB os os (bestZ os):=by
 have:=isB_fold (os:=os) os [] (0,0) (.inl ⟨by simp,rfl⟩) fun _ h=>h
 rw [List.nil_append] at this
 exact this
theorem isB_one {os:List (Option Int)} {b d:Int × Int} (h:IsB os os b) (k:IsB os os d):b=d:=by
 obtain ⟨b1,b2⟩:=b
 obtain ⟨d1,d2⟩:=d
 rcases h with ⟨h1,h2⟩|⟨h1,h2,h3⟩
 · rcases k with ⟨k1,k2⟩|⟨k1,_⟩
   · rw [h2,k2]
   · exact absurd k1 (h1 _)
 · rcases k with ⟨k1,k2⟩|⟨k1,k2,k3⟩
   · exact absurd h1 (k1 _)
   · have p:=h3 _ k1
     have q:=k3 _ h1
     dsimp only at *
     have e:b1=d1:=by omega
     subst e
     rw [h2,k2]
theorem top_is (os:List (Option Int)):IsB os os (topR os):=by
 unfold topR
 cases e:tallyL (countsFrom [] os) with
 | nil =>
   refine .inl ⟨fun x hx=>?_,rfl⟩
   have:=(tal_mem (r:=(x,((os.count (some x):Nat):Int)))).mpr (counts_row.mpr ⟨hx,rfl⟩)
   rw [e] at this
   cases this
 | cons r rows =>
   have hr:r∈countsFrom [] os:=tal_mem.mp (by rw [e];simp)
   obtain ⟨r1,r2⟩:=r
   obtain ⟨h1,h2⟩:=counts_row.mp hr
   refine .inr ⟨h1,h2,fun x hx=>?_⟩
   have:=(tal_mem (r:=(x,((os.count (some x):Nat):Int)))).mpr (counts_row.mpr ⟨hx,rfl⟩)
   have so:=tal_sorted (countsFrom [] os)
   rw [e] at this so
   rcases List.mem_cons.mp this with z|z
   · cases z;exact .inr ⟨rfl,Int.le_refl _⟩
   · have:=(List.pairwise_cons.mp so).1 _ z
     simp only [rowLe,decide_eq_true_eq] at this
     rw [cnt_nat]
     dsimp only at *
     omega
theorem top_best (os:List (Option Int)):topR os=bestZ os:=isB_one (top_is os) (best_is os)
theorem str_best (os:List (Option Int)) (k:Int) (hk:1<=k):strR os k=if k<=(bestZ os).2 then .int (bestZ os).1 else .non:=by
 rw [<-top_best]
 unfold strR topR
 cases tallyL (countsFrom [] os) with
 |nil=>rw [if_neg (by dsimp only;omega)]
 |cons r rows=>rfl
noncomputable def stZ (os:List (Option Int)) (k:Int):Option Int:=if k<=(bestZ os).2 then some (bestZ os).1 else none
theorem str_st {os:List (Option Int)} {k:Int} (hk:1<=k):strR os k=oD (stZ os k):=by
 rw [str_best os k hk]
 unfold stZ
 split<;>rfl
theorem s_times {n l:Nat} {S:R.St} {os:List (Option Int)} {v:Int} (h:S.get l=some (.lst (os.map oD))):app (callF prog (n+1)) 0 [.ref l,.int v] S=.ok (.int (cntZ os (some v))) S:=by
 refine app_ok (F:=c_times) rfl rfl ?_
 conv=>whnf
 refine wGet_old h ?_
 conv=>whnf
 refine wGet_old h ?_
 conv=>whnf
 refine wOpt_of (words_oD os) ?_
 conv=>whnf
 exact wFin_flat rfl ⟨rfl,rfl⟩
theorem best_cnt (os:List (Option Int)) (h:1<=(bestZ os).2):(bestZ os).2=cntZ os (some (bestZ os).1):=by
 rcases best_is os with ⟨_,e⟩|⟨_,e,_⟩
 · rw [e] at h;cases h
 · exact e
theorem plen (S:R.St) (o:MO):(S.push o).len=S.len+1:=by simp [St.push,St.len];omega
theorem drop_at {α:Type} {xs:List α} {i:Nat} {x:α} (h:xs[i]?=some x):xs.drop i=x::xs.drop (i+1):=by
 obtain ⟨hl,rfl⟩:=List.getElem?_eq_some_iff.mp h
 exact List.drop_eq_getElem_cons hl
structure Mv (A:List Nat) (S T:R.St):Prop where
 frz:T.frz=S.frz
 lk:T.lk=S.lk
 len:S.len<=T.len
 old:∀m o,m∉A->S.get m=some o->T.get m=some o
theorem Mv.refl (A:List Nat) (S:R.St):Mv A S S:=⟨rfl,rfl,Nat.le_refl _,fun _ _ _ h=>h⟩
theorem Mv.trans {A:List Nat} {S T U:R.St} (a:Mv A S T) (b:Mv A T U):Mv A S U:=⟨b.frz.trans a.frz,b.lk.trans a.lk,Nat.le_trans a.len b.len,fun m o h e=>b.old m o h (a.old m o h e)⟩
theorem Mv.push (A:List Nat) (S:R.St) (o:MO):Mv A S (S.push o):=⟨rfl,rfl,by rw [plen];omega,fun _ _ _ e=>push_old e⟩
theorem Mv.up {A B:List Nat} {S T:R.St} (h:Mv A S T) (s:∀m,m∈A->m∈B):Mv B S T:=⟨h.frz,h.lk,h.len,fun m o hm e=>h.old m o (fun z=>hm (s m z)) e⟩
theorem get_lt {S:R.St} {l:Nat} {o:MO} (h:S.get l=some o):l<S.len:=by
 unfold St.get at h
 unfold St.len
 split at h
 · omega
 · have:=(List.getElem?_eq_some_iff.mp h).1;omega
structure Fr (S:R.St) (a:Nat):Prop where
 f:S.frz.length<=a
 k:S.lk.contains a=false
theorem Fr.mv {A:List Nat} {S T:R.St} {a:Nat} (h:Fr S a) (v:Mv A S T):Fr T a:=⟨by rw [v.frz];exact h.f,by rw [v.lk];exact h.k⟩
theorem set_of {S:R.St} {a c:Nat} {fs gs:List (PySem.Str × D)} {f:PySem.Str} {v:D} (e:S.get a=some (.ins c fs)) (hf:Fr S a) (hl:fs.length<1000) (hg:putFD f v fs=gs):∃T,setFld S (.ref a) f v=some T/\Mv [a] S T/\T.get a=some (.ins c gs):=by
 obtain ⟨T,h1,h2,h3,h4,h5,h6⟩:=put_some (S:=S) (l:=a) (.ins c gs) hf.f hf.k
 refine ⟨T,?_,⟨h2,h3,by omega,fun m o hm e=>by rw [h5 m (by simpa using hm)];exact e⟩,h6 (get_lt e)⟩
 unfold setFld
 dsimp only
 rw [e]
 dsimp only
 rw [if_pos hl,hg,h1]
section
variable {S:R.St} {a l:Nat} {m b i s k:Int} {w h:Option Int}
theorem set_held {h':Option Int} (e:S.get a=some (hD m b i s w h k l)) (hf:Fr S a):∃T,setFld S (.ref a) "held" (oD h')=some T/\Mv [a] S T/\T.get a=some (hD m b i s w h' k l):=set_of e hf (by simp) rfl
theorem set_backing {k':Int} (e:S.get a=some (hD m b i s w h k l)) (hf:Fr S a):∃T,setFld S (.ref a) "backing" (.int k')=some T/\Mv [a] S T/\T.get a=some (hD m b i s w h k' l):=set_of e hf (by simp) rfl
theorem eq_tup1 (S:R.St) (x y:Int):cmpO S .Eq (.tup [.int x]) (.tup [.int y])=some (x == y):=by
 show eqD S (.tup [.int x]) (.tup [.int y])=_
 show some (PySem.PyData.eqv (.tuple [.int x]) (.tuple [.int y]))=_
 simp [PySem.PyData.eqv,PySem.PyData.eqvAll,L2.eqv_int]
end
noncomputable def wfZ (s:Int):List (Int × Option Int)->Int
 | []=>0
 |x::r=>match x.2 with|some v=>if x.1=s then v else wfZ s r|none=>wfZ s r
theorem s_wf {n q:Nat} {S:R.St} {s:Int} {Ls:List (Int × Option Int)} (h:S.get q=some (.lst (Ls.map ltD))):app (callF prog (n+1)) 5 [.int s,.ref q] S=.ok (.int (wfZ s Ls)) S:=by
 refine app_ok (F:=c_word_from) rfl rfl ?_
 conv=>whnf
 refine wGet_old h ?_
 conv=>whnf
 refine wLock_of ?_
 refine W.mono (turnsF_inv (fun i δ T=>T=⟨S.frz++S.new,[],[q]⟩/\wfZ s (Ls.drop i)=wfZ s Ls/\∃v3 v4,δ=[some (.int s),some (.ref q),v3,v4]) (fun d _=>d=.int (wfZ s Ls)) _ 0 _ _ ⟨rfl,rfl,none,none,rfl⟩ ?_) ?_
 · rintro i z δ T hz ⟨rfl,hw,v3,v4,rfl⟩
   rw [Nat.zero_add]
   rw [List.getElem?_map] at hz
   cases e:Ls[i]? with
   |none=>rw [e] at hz;cases hz
   | some x =>
     rw [e] at hz;cases hz
     rw [Nat.zero_add,drop_at e] at hw
     refine ⟨_,rfl,wS_W _ ?_⟩
     conv=>whnf
     refine wNeed_of (by first|decide|omega|(simp;done)|(simp;omega)) ?_
     conv=>whnf
     refine wOpt_of (eq_tup1 _ _ _) ?_
     conv=>whnf
     refine wIf_i (fun c=>?_) (fun c=>?_)
     · have c:x.1=s:=by simpa using c
       cases e2:x.2 with
       | none =>
         conv=>whnf
         refine ⟨rfl,?_,_,_,rfl⟩
         rw [<-hw];simp [wfZ,e2]
       | some v =>
         conv=>whnf
         rw [<-hw]
         simp [wfZ,e2,c,oD]
     · have c:x.1≠s:=by simpa using c
       conv=>whnf
       refine ⟨rfl,?_,_,_,rfl⟩
       rw [<-hw]
       cases e2:x.2<;>simp [wfZ,e2,c]
 · intro f T hf
   cases f with
   | nx δ =>
     obtain ⟨rfl,hw,v3,v4,rfl⟩:=hf
     conv=>whnf
     refine wFin_flat rfl ⟨?_,rfl⟩
     rw [<-hw];simp [wfZ]
   | rt d =>
     subst hf
     exact wFin_flat rfl ⟨rfl,rfl⟩
noncomputable def lst1 (m b:Int):Int:=if 1 > m - b then 1 else m - b
theorem lst1_pos (m b:Int):1<=lst1 m b:=by unfold lst1;split<;>omega
noncomputable def bkZ (os:List (Option Int)) (b:Int):Int:=match stZ os (b+1) with|none=>0|some v=>cntZ os (some v)
noncomputable def kgZ (m b i t:Int) (h:Option Int) (k:Int) (Ls:List (Int × Option Int)):Option Int:=if (h.isSome&&decide (m - b<=k))=true then h else if i≠kingZ m t then some (wfZ (kingZ m t) Ls) else some (h.getD 0)
noncomputable def hrZ (m b i s t:Int) (h:Option Int) (k:Int) (Ls:List (Int × Option Int)):Option Int × Int:=
 if t=1 then (if i≠s then some (wfZ s Ls) else h,k) else if (t - 2) % 3=0 then (stZ (wsZ h Ls) (lst1 m b),k) else if (t - 2) % 3=1 then (stZ (wsZ h Ls) (b+1),bkZ (wsZ h Ls) b) else (kgZ m b i t h k Ls,k)
section
variable {S:R.St} {a l:Nat} {m b i s k:Int} {w h:Option Int}
theorem os_len {Ls:List (Int × Option Int)} (hl:Ls.length<=10):(countsFrom [] (wsZ h Ls)).length<64/\(wsZ h Ls).length<=16777216:=by
 have:=counts_len (wsZ h Ls)
 have e:(wsZ h Ls).length=Ls.length+1:=by simp [wsZ]
 omega
theorem m_hs {n q:Nat} {Ls:List (Int × Option Int)} (e:S.get a=some (hD m b i s w h k l)) (hf:Fr S a) (eq:S.get q=some (.lst (Ls.map ltD))):W (appW (callF prog (n+2)) 25 [.ref a,.ref q] S) fun d T=>Mv [a] S T/\T.get a=some (hD m b i s w (if i≠s then some (wfZ s Ls) else h) k l):=by
 refine appW_X (F:=c_KingHand_hear_sender) rfl rfl (wS_W _ ?_)
 conv=>whnf
 refine wOpt_of (f_number e) ?_
 conv=>whnf
 refine wOpt_of (f_sender e) ?_
 conv=>whnf
 refine wIf_i (fun c=>?_) (fun c=>?_)
 · have c:i≠s:=by simpa using c
   conv=>whnf
   refine wOpt_of (f_sender e) ?_
   conv=>whnf
   refine wOut_of (s_wf (n:=n) (s:=s) eq) ?_
   conv=>whnf
   obtain ⟨T,h1,h2,h3⟩:=set_held (h':=some (wfZ s Ls)) e hf
   refine wOpt_of (h1) ?_
   conv=>whnf
   rw [if_pos c]
   exact ⟨h2,h3⟩
 · have c:¬i≠s:=by simpa using c
   conv=>whnf
   rw [if_neg c]
   exact ⟨Mv.refl _ _,e⟩
theorem m_hb {n q:Nat} {Ls:List (Int × Option Int)} (e:S.get a=some (hD m b i s w h k l)) (hf:Fr S a) (eq:S.get q=some (.lst (Ls.map ltD))) (hl:Ls.length<=10) (hb:0<=b):W (appW (callF prog (n+6)) 23 [.ref a,.ref q] S) fun d T=>Mv [a] S T/\T.get a=some (hD m b i s w (stZ (wsZ h Ls) (b+1)) (bkZ (wsZ h Ls) b) l):=by
 refine appW_X (F:=c_KingHand_hear_backing) rfl rfl (wS_W _ ?_)
 obtain ⟨c1,c2⟩:=os_len (h:=h) hl
 have v1:Mv [a] S ((awS S h Ls).push (.lst ((wsZ h Ls).map oD))):=((Mv.push _ _ _).trans (Mv.push _ _ _)).trans (Mv.push _ _ _)
 have e1:((awS S h Ls).push (.lst ((wsZ h Ls).map oD))).get a=some (hD m b i s w h k l):=push_old (push_old (push_old e))
 have f1:=hf.mv v1
 have ew:((awS S h Ls).push (.lst ((wsZ h Ls).map oD))).get (awS S h Ls).len=some (.lst ((wsZ h Ls).map oD)):=push_get _ _
 conv=>whnf
 refine wOpt_of (insOf_of e) ?_
 conv=>whnf
 refine wOpt_of (rfl) ?_
 conv=>whnf
 refine wNeed_of rfl ?_
 conv=>whnf
 refine wOut_of (m_words (n:=n+4) e eq hl) ?_
 conv=>whnf
 generalize hS1:(awS S h Ls).push (.lst ((wsZ h Ls).map oD))=S1 at *
 conv=>whnf
 refine wOpt_of (f_bound e1) ?_
 conv=>whnf
 refine wOut_of ((s_strong (n:=n) (k:=b+1) ew c1 c2).trans (by rw [str_st (by omega)])) ?_
 conv=>whnf
 obtain ⟨S2,h1,h2,h3⟩:=set_held (h':=stZ (wsZ h Ls) (b+1)) e1 f1
 refine wOpt_of (h1) ?_
 conv=>whnf
 refine wOpt_of (f_held h3) ?_
 conv=>whnf
 have f2:=f1.mv h2
 have ew2:S2.get (awS S h Ls).len=some (.lst ((wsZ h Ls).map oD)):=h2.old _ _ (by
  have:=get_lt e
  simp only [List.mem_singleton]
  unfold awS
  rw [plen,plen]
  omega) ew
 unfold bkZ
 cases es:stZ (wsZ h Ls) (b+1) with
 | none =>
   rw [es] at h3
   conv=>whnf
   obtain ⟨S3,g1,g2,g3⟩:=set_backing (k':=0) h3 f2
   refine wOpt_of (g1) ?_
   conv=>whnf
   exact ⟨(v1.trans h2).trans g2,g3⟩
 | some v =>
   rw [es] at h3
   conv=>whnf
   refine wOpt_of (f_held h3) ?_
   conv=>whnf
   refine wOut_of (s_times (n:=n+4) (v:=v) ew2) ?_
   conv=>whnf
   obtain ⟨S3,g1,g2,g3⟩:=set_backing (k':=cntZ (wsZ h Ls) (some v)) h3 f2
   refine wOpt_of (g1) ?_
   conv=>whnf
   exact ⟨(v1.trans h2).trans g2,g3⟩
theorem m_hk {n q:Nat} {t:Int} {Ls:List (Int × Option Int)} (e:S.get a=some (hD m b i s w h k l)) (hf:Fr S a) (eq:S.get q=some (.lst (Ls.map ltD))) (hm:0<m):W (appW (callF prog (n+2)) 24 [.ref a,.int t,.ref q] S) fun d T=>Mv [a] S T/\T.get a=some (hD m b i s w (kgZ m b i t h k Ls) k l):=by
 refine appW_X (F:=c_KingHand_hear_king) rfl rfl (wS_W _ ?_)
 have fin':wS (callF prog (n+1)) (.asg 3 (.meth "king_of" [(0,26)] (.loc 0) (.cons (.loc 1) .nil)) (.ifS (.cmp .NotEq (.fld (.loc 0) "number") (.loc 3)) (.setF (.loc 0) "held" (.call 5 0 (.cons (.loc 3) (.cons (.loc 2) .nil))) .nil) (.ifS (.cmp .Is (.fld (.loc 0) "held") (.con D.non)) (.setF (.loc 0) "held" (.con (D.int 0)) .nil) .nil .nil) .nil)) [some (.ref a),some (.int t),some (.ref q),none] S fun r T=>match r with|.nx _=>Mv [a] S T/\T.get a=some (hD m b i s w (if i≠kingZ m t then some (wfZ (kingZ m t) Ls) else some (h.getD 0)) k l)|.rt _=>Mv [a] S T/\T.get a=some (hD m b i s w (if i≠kingZ m t then some (wfZ (kingZ m t) Ls) else some (h.getD 0)) k l):=by
  conv=>whnf
  refine wOpt_of (insOf_of e) ?_
  conv=>whnf
  refine wOpt_of (rfl) ?_
  conv=>whnf
  refine wNeed_of rfl ?_
  conv=>whnf
  refine wOut_of (m_king (n:=n) e hm) ?_
  conv=>whnf
  refine wOpt_of (f_number e) ?_
  conv=>whnf
  refine wIf_i (fun c=>?_) (fun c=>?_)
  · have c:i≠kingZ m t:=by simpa using c
    conv=>whnf
    refine wOut_of (s_wf (n:=n) (s:=kingZ m t) eq) ?_
    conv=>whnf
    obtain ⟨T,h1,h2,h3⟩:=set_held (h':=some (wfZ (kingZ m t) Ls)) e hf
    refine wOpt_of (h1) ?_
    conv=>whnf
    rw [if_pos c]
    exact ⟨h2,h3⟩
  · have c:¬i≠kingZ m t:=by simpa using c
    rw [if_neg c]
    conv=>whnf
    refine wOpt_of (f_held e) ?_
    conv=>whnf
    cases h with
    | none =>
      conv=>whnf
      obtain ⟨T,h1,h2,h3⟩:=set_held (h':=some 0) e hf
      refine wOpt_of (h1) ?_
      conv=>whnf
      exact ⟨h2,h3⟩
    | some v =>
      conv=>whnf
      exact ⟨Mv.refl _ _,e⟩
 unfold kgZ
 cases h with
 | none =>
   conv=>whnf
   refine wOpt_of (f_held e) ?_
   conv=>whnf
   rw [if_neg (by simp)]
   exact fin'
 | some v =>
   conv=>whnf
   refine wOpt_of (f_held e) ?_
   conv=>whnf
   refine wOpt_of (f_backing e) ?_
   conv=>whnf
   refine wOpt_of (f_many e) ?_
   conv=>whnf
   refine wOpt_of (f_bound e) ?_
   conv=>whnf
   refine wIf_p (fun c=>?_) (fun c=>?_)
   · conv=>whnf
     rw [if_pos (by simpa using c)]
     exact ⟨Mv.refl _ _,e⟩
   · rw [if_neg (by simpa using c)]
     exact fin'
end
section
variable {S:R.St} {a l:Nat} {m b i s k:Int} {w h:Option Int}
theorem h_tail {n:Nat} {d1 d2:Option D} {ws:List (Option Int)} {Q:Fl->R.St->Prop} (e:S.get a=some (hD m b i s w h k l)) (el:S.get l=some (.lst (ws.map oD))) (fl:Fr S l) (hl:ws.length<=1000)
  (q:∀U,Mv [l] S U->U.get l=some (.lst ((ws++[h]).map oD))->Q (.nx [some (.ref a),d1,d2]) U):wS (callF prog n) (.expr (.mt .append (.fld (.loc 0) "holdings") (.cons (.fld (.loc 0) "held") .nil)) .nil) [some (.ref a),d1,d2] S Q:=by
 obtain ⟨U,h1,h2,h3,h4,h5,h6⟩:=put_some (S:=S) (l:=l) (.lst ((ws++[h]).map oD)) fl.f fl.k
 have hx:ws.map oD++[oD h]=(ws++[h]).map oD:=by simp
 conv=>whnf
 refine wOpt_of (f_holdings e) ?_
 conv=>whnf
 refine wOpt_of (el) ?_
 conv=>whnf
 refine wOpt_of (f_held e) ?_
 conv=>whnf
 refine wOpt_of (el) ?_
 conv=>whnf
 refine wNeed_of (by simp only [List.length_append,List.length_map,List.length_cons,List.length_nil];omega) ?_
 conv=>whnf
 refine wOpt_of (by rw [hx];exact h1) ?_
 exact q U ⟨h2,h3,by omega,fun m o hm e=>by rw [h5 m (by simpa using hm)];exact e⟩ (h6 (get_lt el))
theorem m_hear {n q:Nat} {t:Int} {ws:List (Option Int)} {Ls:List (Int × Option Int)} (e:S.get a=some (hD m b i s w h k l)) (hf:Fr S a) (eq:S.get q=some (.lst (Ls.map ltD))) (el:S.get l=some (.lst (ws.map oD))) (fl:Fr S l) (hal:l≠a) (hws:ws.length<=1000) (hl:Ls.length<=10) (hb:0<=b) (hm:0<m) :
  W (appW (callF prog (n+7)) 22 [.ref a,.int t,.ref q] S) fun d T=>d=.non/\Mv [a,l] S T/\T.get a=some (hD m b i s w (hrZ m b i s t h k Ls).1 (hrZ m b i s t h k Ls).2 l)/\T.get l=some (.lst ((ws++[(hrZ m b i s t h k Ls).1]).map oD)):=by
 refine appW_X (F:=c_KingHand_hear) rfl rfl (wS_W _ ?_)
 obtain ⟨c64,c16⟩:=os_len (h:=h) hl
 have end':∀(T:R.St) (h':Option Int) (k':Int),Mv [a] S T->T.get a=some (hD m b i s w h' k' l)->hrZ m b i s t h k Ls=(h',k')->
   wS (callF prog (n+6)) (.expr (.mt .append (.fld (.loc 0) "holdings") (.cons (.fld (.loc 0) "held") .nil)) .nil) [some (.ref a),some (.int t),some (.ref q)] T fun r T=>match r with
    |.nx _=>D.non=.non/\Mv [a,l] S T/\T.get a=some (hD m b i s w (hrZ m b i s t h k Ls).1 (hrZ m b i s t h k Ls).2 l)/\T.get l=some (.lst ((ws++[(hrZ m b i s t h k Ls).1]).map oD))
    |.rt d=>d=.non/\Mv [a,l] S T/\T.get a=some (hD m b i s w (hrZ m b i s t h k Ls).1 (hrZ m b i s t h k Ls).2 l)/\T.get l=some (.lst ((ws++[(hrZ m b i s t h k Ls).1]).map oD)):=by
  intro T h' k' v e' hz
  rw [hz]
  refine h_tail e' (v.old _ _ (by simpa using hal) el) (fl.mv v) hws fun U v2 g=>⟨rfl,(v.up (by simp)).trans (v2.up (by simp)),v2.old _ _ (by simpa using hal.symm) e',g⟩
 unfold hrZ at end'⊢
 conv=>whnf
 refine wIf_p (fun c1=>?_) (fun c1=>?_)
 · rw [if_pos c1] at end'⊢
   conv=>whnf
   refine wOpt_of (insOf_of e) ?_
   conv=>whnf
   refine wOpt_of (rfl) ?_
   conv=>whnf
   refine wNeed_of rfl ?_
   conv=>whnf
   refine wOut_W ((m_hs (n:=n+4) e hf eq).mono fun d T hT=>?_)
   exact end' T _ _ hT.1 hT.2 rfl
 · rw [if_neg c1] at end'⊢
   conv=>whnf
   refine wOut_of (s_step (n:=n+5)) ?_
   conv=>whnf
   refine wIf_p (fun c2=>?_) (fun c2=>?_)
   · rw [if_pos c2] at end'⊢
     conv=>whnf
     refine wOpt_of (insOf_of e) ?_
     conv=>whnf
     refine wOpt_of (rfl) ?_
     conv=>whnf
     refine wNeed_of rfl ?_
     conv=>whnf
     refine wOut_of (m_words (n:=n+5) e eq hl) ?_
     conv=>whnf
     have v1:Mv [a] S ((awS S h Ls).push (.lst ((wsZ h Ls).map oD))):=((Mv.push _ _ _).trans (Mv.push _ _ _)).trans (Mv.push _ _ _)
     have e1:((awS S h Ls).push (.lst ((wsZ h Ls).map oD))).get a=some (hD m b i s w h k l):=push_old (push_old (push_old e))
     have f1:=hf.mv v1
     have ew:((awS S h Ls).push (.lst ((wsZ h Ls).map oD))).get (awS S h Ls).len=some (.lst ((wsZ h Ls).map oD)):=push_get _ _
     generalize hS1:(awS S h Ls).push (.lst ((wsZ h Ls).map oD))=S1 at *
     conv=>whnf
     refine wOpt_of (f_many e1) ?_
     conv=>whnf
     refine wOpt_of (f_bound e1) ?_
     conv=>whnf
     refine wOut_of ((s_strong (n:=n+1) (k:=lst1 m b) ew c64 c16).trans (by rw [str_st (lst1_pos m b)])) ?_
     conv=>whnf
     obtain ⟨S2,h1,h2,h3⟩:=set_held (h':=stZ (wsZ h Ls) (lst1 m b)) e1 f1
     refine wOpt_of (h1) ?_
     conv=>whnf
     exact end' S2 _ _ (v1.trans h2) h3 rfl
   · rw [if_neg c2] at end'⊢
     conv=>whnf
     refine wOut_of (s_step (n:=n+5)) ?_
     conv=>whnf
     refine wIf_p (fun c3=>?_) (fun c3=>?_)
     · rw [if_pos c3] at end'⊢
       conv=>whnf
       refine wOpt_of (insOf_of e) ?_
       conv=>whnf
       refine wOpt_of (rfl) ?_
       conv=>whnf
       refine wNeed_of rfl ?_
       conv=>whnf
       refine wOut_W ((m_hb (n:=n) e hf eq hl hb).mono fun d T hT=>?_)
       exact end' T _ _ hT.1 hT.2 rfl
     · rw [if_neg c3] at end'⊢
       conv=>whnf
       refine wOpt_of (insOf_of e) ?_
       conv=>whnf
       refine wOpt_of (rfl) ?_
       conv=>whnf
       refine wNeed_of rfl ?_
       conv=>whnf
       refine wOut_W ((m_hk (n:=n+4) (t:=t) e hf eq hm).mono fun d T hT=>?_)
       exact end' T _ _ hT.1 hT.2 rfl
end
theorem s_rounds {n:Nat} {S:R.St} {b:Int} (hb:0<=b) (hb5:b<=5):app (callF prog (n+1)) 3 [.int b] S=.ok (.int (1+3 * (b+1))) S:=by
 refine app_ok (F:=c_rounds_for) rfl rfl ?_
 conv=>whnf
 refine wNeed_of (by unfold mulOk;simp) ?_
 conv=>whnf
 exact wFin_flat rfl ⟨rfl,rfl⟩
theorem m_hinit {n:Nat} {i m r:Int}:appW (callF prog (n+1)) 30 [.ref 0,.int i,.int m,.int r] ⟨[],[.ins 0 []],[]⟩=.ok .non ⟨[],[.ins 0 [("number",.int i),("many",.int m),("rounds",.int r)]],[]⟩:=by
 refine appW_ok (F:=c_Hand_init) rfl rfl ?_
 conv=>whnf
 refine wOpt_of (rfl) ?_
 conv=>whnf
 refine wOpt_of (rfl) ?_
 conv=>whnf
 refine wOpt_of (rfl) ?_
 conv=>whnf
 exact ⟨rfl,rfl⟩
theorem m_init {n:Nat} {m b i s:Int} {w:Option Int} (hb:0<=b) (hb5:b<=5) :
  appW (callF prog (n+2)) 19 [.ref 0,.int i,.int m,.int b,.int s,oD w] ⟨[],[.ins 0 []],[]⟩=.ok .non ⟨[],[hD m b i s w w 0 1,.lst []],[]⟩:=by
 refine appW_ok (F:=c_KingHand_init) rfl rfl ?_
 conv=>whnf
 refine wOut_of (s_rounds (n:=n) hb hb5) ?_
 conv=>whnf
 refine wOut_of (m_hinit (n:=n)) ?_
 conv=>whnf
 refine wOpt_of (rfl) ?_
 conv=>whnf
 refine wOpt_of (rfl) ?_
 conv=>whnf
 refine wOpt_of (rfl) ?_
 conv=>whnf
 refine wOpt_of (rfl) ?_
 conv=>whnf
 refine wOpt_of (rfl) ?_
 conv=>whnf
 refine wNeed_of (by first|decide|omega|(simp;done)|(simp;omega)) ?_
 conv=>whnf
 refine wOpt_of (rfl) ?_
 conv=>whnf
 exact ⟨rfl,rfl⟩
theorem s_cell {n:Nat} {S:R.St} {ns:List Int} {k:Nat}:app (callF prog (n+1)) 6 [.fix (ns.map .int),.int k] S=.ok (.int (cellZ ns k)) S:=by
 refine app_ok (F:=c_law_cell_at) rfl rfl ?_
 conv=>whnf
 refine wIf_p (fun c=>?_) (fun c=>?_)
 · have c:k<ns.length:=by simpa using c
   conv=>whnf
   refine wOpt_of (atI_nat (x:=D.int ns[k]) (by simp [c])) ?_
   conv=>whnf
   refine wNeed_of (by decide) ?_
   conv=>whnf
   refine wNeed_of (by decide) ?_
   conv=>whnf
   refine wFin_flat rfl ⟨?_,rfl⟩
   unfold cellZ
   rw [List.getElem?_eq_getElem c]
   rfl
 · have c:¬k<ns.length:=by simpa using c
   conv=>whnf
   refine wFin_flat rfl ⟨?_,rfl⟩
   unfold cellZ
   rw [List.getElem?_eq_none (by omega)]
theorem s_cellZ {n:Nat} {S:R.St} {ns:List Int} {k:Int} (hk:0<=k):app (callF prog (n+1)) 6 [.fix (ns.map .int),.int k] S=.ok (.int (cellZ ns k.toNat)) S:=by
 have:=s_cell (n:=n) (S:=S) (ns:=ns) (k:=k.toNat)
 rw [show ((k.toNat:Nat):Int)=k by omega] at this
 exact this
theorem s_like {n:Nat} {S:R.St} {o:Option Int}:app (callF prog (n+1)) 7 [oD o,oD o] S=.ok (.bl true) S:=by
 refine app_ok (F:=c_law_like) rfl rfl ?_
 cases o with
 | none =>
   conv=>whnf
   exact wFin_flat rfl ⟨rfl,rfl⟩
 | some v =>
   conv=>whnf
   refine wOpt_of ((show tyOf S.enter (.int v)=some "int" from rfl)) ?_
   conv=>whnf
   refine wOpt_of ((show tyOf S.enter (.int v)=some "int" from rfl)) ?_
   conv=>whnf
   exact wFin_flat rfl ⟨by simp,rfl⟩
noncomputable def unD:D->Option Int|.int i=>some i|_=>none
theorem un_oD (o:Option Int):unD (oD o)=o:=by cases o<;>rfl
theorem cmp_oD (S:R.St) (x y:Option Int):cmpD S .Eq (oD x) (oD y)=some (decide (x=y)):=by
 cases x with
 | none =>
   cases y with
   |none=>show eqD S .non .non=_;show some (PySem.PyData.eqv .none .none)=_;simp [PySem.PyData.eqv]
   |some j=>show eqD S .non (.int j)=_;show some (PySem.PyData.eqv .none (.int j))=_;simp [PySem.PyData.eqv]
 | some i =>
   cases y with
   |none=>show eqD S (.int i) .non=_;show some (PySem.PyData.eqv (.int i) .none)=_;simp [PySem.PyData.eqv]
   |some j=>show some (decide (i=j))=_;simp
theorem filt_cnt (o:Option Int):∀os:List (Option Int),(((os.map oD).filter fun d=>decide (unD d=o)).map fun d=>d).length=os.count o
 | []=>rfl
 | x :: os => by
   have ih:=filt_cnt o os
   rw [List.map_cons,List.filter_cons,un_oD,List.count_cons]
   by_cases c:x=o
   · subst c;simp at ih⊢;exact ih
   · have c':(x == o)=false:=by simpa using c
     simp [c] at ih⊢;exact ih
noncomputable def bD (b:Int × Int):D:=if b.2=0 then .non else .int b.1
theorem s_lstrong {n l:Nat} {S:R.St} {os:List (Option Int)} {k:Int} (h:S.get l=some (.lst (os.map oD))) (hl:os.length<=100) (hk:1<=k):app (callF prog (n+1)) 8 [.ref l,.int k] S=.ok (.tup [oD (stZ os k),.int (if k<=(bestZ os).2 then (bestZ os).2 else 0)]) S:=by
 refine app_ok (F:=c_law_strong) rfl rfl ?_
 conv=>whnf
 refine wGet_old h ?_
 conv=>whnf
 refine wLock_of ?_
 refine W.mono (turnsF_inv (fun i δ T=>(∃nw,T=⟨S.frz++S.new,nw,[l]⟩)/\∃v4 v5,δ=[some (.ref l),some (.int k),some (bD ((os.take i).foldl (bstep os) (0,0))),some (.int ((os.take i).foldl (bstep os) (0,0)).2),v4,v5]) (fun _ _=>False) _ 0 _ _ ⟨⟨[],rfl⟩,none,none,rfl⟩ ?_) ?_
 · rintro i z δ T hz ⟨⟨nw,rfl⟩,v4,v5,rfl⟩
   rw [Nat.zero_add]
   rw [List.getElem?_map] at hz
   cases e:os[i]? with
   |none=>rw [e] at hz;cases hz
   | some o =>
     rw [e] at hz;cases hz
     refine ⟨_,rfl,wS_W _ ?_⟩
     rw [take_snoc e,List.foldl_append]
     have hnn:=best_nonneg os (os.take i) (0,0) (by decide)
     generalize hB:(os.take i).foldl (bstep os) (0,0)=B at *
     obtain ⟨b1,b2⟩:=B
     dsimp only at hnn
     conv=>whnf
     refine wGet_old h ?_
     conv=>whnf
     refine wLock_of ?_
     refine W.of (turnsC_pure (fun d=>decide (unD d=o)) (fun d=>d) _ none (fun z hz=>?_) (fun z hz _=>rfl)) ?_
     · obtain ⟨x,_,rfl⟩:=List.mem_map.mp hz
       refine W.eq (wT_W _ ?_)
       cases x with
       | none =>
         cases o with
         | none =>
           conv=>whnf
           refine wOpt_of (cmp_oD _ none none) ?_
           conv=>whnf
           exact ⟨rfl,rfl⟩
         | some j =>
           conv=>whnf
           refine wOpt_of (cmp_oD _ none (some j)) ?_
           conv=>whnf
           exact ⟨rfl,rfl⟩
       | some x =>
         cases o with
         | none =>
           conv=>whnf
           refine wOpt_of (cmp_oD _ (some x) none) ?_
           conv=>whnf
           exact ⟨rfl,rfl⟩
         | some j =>
           conv=>whnf
           exact ⟨by simp [unD,oD],rfl⟩
     · have hc:=filt_cnt o os
       have hle:os.count o<=os.length:=List.count_le_length
       refine wNeed_of (by rw [hc];omega) ?_
       conv=>whnf
       refine wNeed_of (by rw [hc];omega) ?_
       conv=>whnf
       refine wOpt_of (push_get ⟨S.frz++S.new,nw,[l]⟩ _) ?_
       conv=>whnf
       rw [hc]
       have fin:∀(nw':List MO) (b':Int × Int),bstep os (b1,b2) o=b'->(∃nw,(⟨S.frz++S.new,nw',[l]⟩:R.St)=⟨S.frz++S.new,nw,[l]⟩)/\∃v4 v5,[some (.ref l),some (.int k),some (bD b'),some (.int b'.2),some (oD o),some (.int (os.count o:Nat))]=[some (.ref l),some (.int k),some (bD (bstep os (b1,b2) o)),some (.int (bstep os (b1,b2) o).2),v4,v5]:=fun nw' b' hb=>⟨⟨nw',rfl⟩,some (oD o),some (.int (os.count o:Nat)),by rw [hb]⟩
       cases o with
       | none =>
         conv=>whnf
         exact fin _ _ rfl
       | some v =>
         have wp:=cnt_pos (List.mem_of_getElem? e)
         rw [cnt_nat] at wp
         conv=>whnf
         refine wIf_p (fun c1=>?_) (fun c1=>?_)
         · have hb:bstep os (b1,b2) (some v)=(v,cntZ os (some v)):=by
            unfold bstep;dsimp only;rw [if_pos (.inl c1)]
           have hne:bD (v,cntZ os (some v))=.int v:=by unfold bD;rw [if_neg];rw [cnt_nat];dsimp only;omega
           conv=>whnf
           have:=fin (nw++[.lst (((os.map oD).filter fun d=>decide (unD d=some v)).map fun d=>d)]) _ hb
           rw [hne] at this
           exact this
         · conv=>whnf
           refine wIf_p (fun c2=>?_) (fun c2=>?_)
           · have c2':((os.count (some v):Nat):Int)=b2:=c2
             have hne:bD (b1,b2)=.int b1:=by unfold bD;rw [if_neg];dsimp only;omega
             rw [hne]
             conv=>whnf
             refine wIf_p (fun c3=>?_) (fun c3=>?_)
             · have hb:bstep os (b1,b2) (some v)=(v,cntZ os (some v)):=by
                unfold bstep;dsimp only;rw [if_pos (.inr ⟨c2',c3⟩)]
               have hne:bD (v,cntZ os (some v))=.int v:=by unfold bD;rw [if_neg];rw [cnt_nat];dsimp only;omega
               conv=>whnf
               have:=fin (nw++[.lst (((os.map oD).filter fun d=>decide (unD d=some v)).map fun d=>d)]) _ hb
               rw [hne] at this
               exact this
             · have hb:bstep os (b1,b2) (some v)=(b1,b2):=by
                unfold bstep;dsimp only;rw [if_neg (by rw [cnt_nat];omega)]
               conv=>whnf
               have:=fin (nw++[.lst (((os.map oD).filter fun d=>decide (unD d=some v)).map fun d=>d)]) _ hb
               rw [hne] at this
               exact this
           · have c2':¬((os.count (some v):Nat):Int)=b2:=c2
             have c1':¬((os.count (some v):Nat):Int) > b2:=c1
             have hb:bstep os (b1,b2) (some v)=(b1,b2):=by
              unfold bstep;dsimp only;rw [if_neg (by rw [cnt_nat];omega)]
             conv=>whnf
             exact fin (nw++[.lst (((os.map oD).filter fun d=>decide (unD d=some v)).map fun d=>d)]) _ hb
 · intro f T hf
   cases f with
   |rt d=>exact hf.elim
   | nx δ =>
     obtain ⟨⟨nw,rfl⟩,v4,v5,rfl⟩:=hf
     rw [Nat.zero_add,List.length_map,List.take_length]
     show wS _ _ _ _ _
     unfold stZ
     have hB:os.foldl (bstep os) (0,0)=bestZ os:=rfl
     rw [hB]
     generalize bestZ os=B
     obtain ⟨b1,b2⟩:=B
     conv=>whnf
     refine wIf_p (fun c=>?_) (fun c=>?_)
     · have c:b2<k:=c
       conv=>whnf
       refine wNeed_of (by first|decide|omega|(simp;done)|(simp;omega)) ?_
       conv=>whnf
       refine wFin_flat rfl ⟨?_,rfl⟩
       rw [if_neg (by dsimp only;omega),if_neg (by dsimp only;omega)];rfl
     · have c:¬b2<k:=c
       conv=>whnf
       refine wNeed_of (by first|decide|omega|(simp;done)|(simp;omega)) ?_
       conv=>whnf
       refine wFin_flat ?_ ⟨?_,rfl⟩
       · unfold bD;split<;>rfl
       · rw [if_pos (by dsimp only;omega),if_pos (by dsimp only;omega)]
         unfold bD
         rw [if_neg (by dsimp only;omega)];rfl
noncomputable def lfZ (Ls:List (Int × Option Int)):Int:=Ls.foldl (fun h x=>x.2.getD h) 0
noncomputable def lkZ (Ls:List (Int × Option Int)):Option Int:=Ls.foldl (fun _ x=>x.2) none
theorem one_wf {s:Int} {Ls:List (Int × Option Int)} (hl:Ls.length<=1) (hw:∀x∈Ls,x.1=s):wfZ s Ls=lfZ Ls/\wfZ s Ls=(lkZ Ls).getD 0:=by
 match Ls,hl with
 | [],_=>exact ⟨rfl,rfl⟩
 | [x], _ =>
   have:=hw x (by simp)
   obtain ⟨x1,x2⟩:=x
   dsimp only at this
   subst this
   cases x2<;>simp [wfZ,lfZ,lkZ]
theorem s_first {n q:Nat} {S:R.St} {i s:Int} {wd:D} {Ls:List (Int × Option Int)} (hwd:flat S.len wd=true) (h:S.get q=some (.lst (Ls.map ltD))):app (callF prog (n+1)) 17 [.int i,.int s,wd,.ref q] S=.ok (if i=s then wd else .tup [.int (lfZ Ls),.int 0]) S:=by
 refine app_ok (F:=c_law_first) rfl rfl ?_
 conv=>whnf
 refine wIf_p (fun c=>?_) (fun c=>?_)
 · rw [if_pos c]
   conv=>whnf
   exact wFin_flat hwd ⟨rfl,rfl⟩
 · rw [if_neg c]
   conv=>whnf
   refine wGet_old h ?_
   conv=>whnf
   refine wLock_of ?_
   refine W.mono (turnsF_inv (fun j δ T=>T=⟨S.frz++S.new,[],[q]⟩/\∃v5 v6,δ=[some (.int i),some (.int s),some wd,some (.ref q),some (.int (lfZ (Ls.take j))),v5,v6]) (fun _ _=>False) _ 0 _ _ ⟨rfl,none,none,rfl⟩ ?_) ?_
   · rintro j z δ T hz ⟨rfl,v5,v6,rfl⟩
     rw [Nat.zero_add]
     rw [List.getElem?_map] at hz
     cases e:Ls[j]? with
     |none=>rw [e] at hz;cases hz
     | some x =>
       rw [e] at hz;cases hz
       refine ⟨_,rfl,wS_W _ ?_⟩
       have hx:lfZ (Ls.take (j+1))=x.2.getD (lfZ (Ls.take j)):=by rw [take_snoc e];unfold lfZ;rw [List.foldl_append];rfl
       rw [hx]
       cases e2:x.2 with
       | none =>
         conv=>whnf
         exact ⟨rfl,_,_,rfl⟩
       | some v =>
         conv=>whnf
         exact ⟨rfl,_,_,rfl⟩
   · intro f T hf
     cases f with
     |rt d=>exact hf.elim
     | nx δ =>
       obtain ⟨rfl,v5,v6,rfl⟩:=hf
       rw [Nat.zero_add,List.length_map,List.take_length]
       conv=>whnf
       refine wNeed_of (by first|decide|omega|(simp;done)|(simp;omega)) ?_
       conv=>whnf
       exact wFin_flat rfl ⟨rfl,rfl⟩
noncomputable def spZ (m b i t:Int) (h:Option Int) (k:Int) (Ls:List (Int × Option Int)):Option Int × Int:=
 if t % 3=2 then (stZ (wsZ h Ls) (lst1 m b),0) else if t % 3=0 then (stZ (wsZ h Ls) (b+1),if b+1<=(bestZ (wsZ h Ls)).2 then (bestZ (wsZ h Ls)).2 else 0) else
 if (h.isSome&&decide (m - b<=k))=true then (h,k) else (some ((if i≠kingZ m t then lkZ Ls else h).getD 0),0)
theorem lst2 (m b:Int):(if m - b > 1 then m - b else 1)=lst1 m b:=by unfold lst1;split<;>split<;>omega
theorem s_stepL {n q:Nat} {S:R.St} {m b i t k:Int} {h:Option Int} {Ls:List (Int × Option Int)} (e:S.get q=some (.lst (Ls.map ltD))) (hl:Ls.length<=10) (hm:0<m) (hb:0<=b) :
  app (callF prog (n+2)) 9 [.tup [.int m,.int b],.int i,.int t,.tup [oD h,.int k],.ref q] S=.ok (.tup [oD (spZ m b i t h k Ls).1,.int (spZ m b i t h k Ls).2]) S:=by
 refine app_ok (F:=c_law_step) rfl rfl ?_
 have fl:∀(o:Option Int) (z:Int),flat S.len (.tup [oD o,.int z])=true:=fun o z=>by cases o<;>rfl
 have fo:∀(o:Option Int) (N:Nat),flat N (oD o)=true:=fun o N=>by cases o<;>rfl
 conv=>whnf
 refine wOpt_of (rfl) ?_
 conv=>whnf
 refine wOpt_of (rfl) ?_
 conv=>whnf
 refine wNeed_of (by first|decide|omega|(simp;done)|(simp;omega)) ?_
 conv=>whnf
 refine wOpt_of (get_old e _ _) ?_
 conv=>whnf
 refine wLock_of ?_
 refine W.of (turnsC_words Ls none none) ?_
 refine wNeed_of (by simp only [List.length_map];omega) ?_
 conv=>whnf
 refine wNeed_of (by simp only [List.length_map];omega) ?_
 conv=>whnf
 refine wOpt_of (push_old (push_get _ _)) ?_
 conv=>whnf
 refine wOpt_of (push_get _ _) ?_
 conv=>whnf
 refine wNeed_of (by simp only [List.length_append,List.length_map,List.length_cons,List.length_nil];omega) ?_
 conv=>whnf
 repeat (first|(refine wNeed_of (by first|decide|omega|(simp;done)|(simp;omega)) ?_;conv=>whnf)|(refine wGet_new rfl ?_;conv=>whnf)|(refine wPut_new rfl ?_;conv=>whnf)|(refine wGet_old (by assumption) ?_;conv=>whnf))
 have ew:∀T:R.St,(T.push (.lst ([oD h]++(Ls.map (·.2)).map oD))).get T.len=some (.lst ((wsZ h Ls).map oD)):=fun T=>push_get _ _
 have hlen:(wsZ h Ls).length<=100:=by simp only [wsZ,List.length_cons,List.length_map];omega
 unfold spZ
 refine wIf_p (fun c1=>?_) (fun c1=>?_)
 · rw [if_pos c1]
   conv=>whnf
   rw [lst2]
   refine wOut_of ((s_lstrong (n:=n) (k:=lst1 m b) (ew _) hlen (lst1_pos m b))) ?_
   conv=>whnf
   refine wOpt_of (atI_0) ?_
   conv=>whnf
   refine wNeed_of (by first|decide|omega|(simp;done)|(simp;omega)) ?_
   conv=>whnf
   exact wFin_flat (fl _ _) ⟨rfl,rfl⟩
 · rw [if_neg c1]
   conv=>whnf
   repeat (first|(refine wNeed_of (by first|decide|omega|(simp;done)|(simp;omega)) ?_;conv=>whnf)|(refine wGet_new rfl ?_;conv=>whnf)|(refine wPut_new rfl ?_;conv=>whnf)|(refine wGet_old (by assumption) ?_;conv=>whnf))
   refine wIf_p (fun c2=>?_) (fun c2=>?_)
   · rw [if_pos c2]
     conv=>whnf
     refine wOut_of ((s_lstrong (n:=n) (k:=b+1) (ew _) hlen (by omega))) ?_
     conv=>whnf
     exact wFin_flat (fl _ _) ⟨rfl,rfl⟩
   · rw [if_neg c2]
     have tail:∀(T:R.St),T.get q=some (.lst (Ls.map ltD))->∀v9:Option D,wS (callF prog (n+1)) (.asg 10 (.bin .Mod (.bin .FloorDiv (.bin .Sub (.loc 2) (.con (D.int 2))) (.con (D.int 3))) (.loc 5)) (.ifS (.cmp .NotEq (.loc 1) (.loc 10)) (.asg 7 (.con D.non) (.forS [11,12] (.val (.loc 4)) (.asg 7 (.loc 12) .nil) .nil)) .nil (.ifS (.cmp .Is (.loc 7) (.con D.non)) (.asg 7 (.con (D.int 0)) .nil) .nil (.ret (.tup (.cons (.loc 7) (.cons (.con (D.int 0)) .nil))) .nil)))) [some (.tup [.int m,.int b]),some (.int i),some (.int t),some (.tup [oD h,.int k]),some (.ref q),some (.int m),some (.int b),some (oD h),some (.int k),v9,none,none,none] T fun r T'=>wFin S r T' fun a U=>a=.tup [oD (some ((if i≠kingZ m t then lkZ Ls else h).getD 0)),.int 0]/\U=S:=by
      intro T eT v9
      have tl2:∀(U:R.St) (h':Option Int) (v10 v11 v12:Option D),h'=(if i≠kingZ m t then lkZ Ls else h)->wS (callF prog (n+1)) (.ifS (.cmp .Is (.loc 7) (.con D.non)) (.asg 7 (.con (D.int 0)) .nil) .nil (.ret (.tup (.cons (.loc 7) (.cons (.con (D.int 0)) .nil))) .nil)) [some (.tup [.int m,.int b]),some (.int i),some (.int t),some (.tup [oD h,.int k]),some (.ref q),some (.int m),some (.int b),some (oD h'),some (.int k),v9,v10,v11,v12] U fun r T'=>wFin S r T' fun a U=>a=.tup [oD (some ((if i≠kingZ m t then lkZ Ls else h).getD 0)),.int 0]/\U=S:=by
       intro U h' v10 v11 v12 hh
       rw [<-hh]
       cases h' with
       | none =>
         conv=>whnf
         refine wNeed_of (by first|decide|omega|(simp;done)|(simp;omega)) ?_
         conv=>whnf
         exact wFin_flat rfl ⟨rfl,rfl⟩
       | some v =>
         conv=>whnf
         refine wNeed_of (by first|decide|omega|(simp;done)|(simp;omega)) ?_
         conv=>whnf
         exact wFin_flat rfl ⟨rfl,rfl⟩
      conv=>whnf
      repeat (first|(refine wNeed_of (by first|decide|omega|(simp;done)|(simp;omega)) ?_;conv=>whnf)|(refine wGet_new rfl ?_;conv=>whnf)|(refine wPut_new rfl ?_;conv=>whnf)|(refine wGet_old (by assumption) ?_;conv=>whnf))
      refine wIf_i (fun c=>?_) (fun c=>?_)
      · have c:i≠kingZ m t:=by simpa [kingZ] using c
        conv=>whnf
        refine wOpt_of (eT) ?_
        conv=>whnf
        refine wLock_of ?_
        refine W.mono (turnsF_inv (fun j δ T'=>∃v10 v11 v12,δ=[some (.tup [.int m,.int b]),some (.int i),some (.int t),some (.tup [oD h,.int k]),some (.ref q),some (.int m),some (.int b),some (oD (lkZ (Ls.take j))),some (.int k),v9,v10,v11,v12]) (fun _ _=>False) _ 0 _ _ ⟨_,none,none,rfl⟩ ?_) ?_
        · rintro j z δ T' hz ⟨v10,v11,v12,rfl⟩
          rw [Nat.zero_add]
          rw [List.getElem?_map] at hz
          cases e:Ls[j]? with
          |none=>rw [e] at hz;cases hz
          | some x =>
            rw [e] at hz;cases hz
            refine ⟨_,rfl,wS_W _ ?_⟩
            have hx:lkZ (Ls.take (j+1))=x.2:=by rw [take_snoc e];unfold lkZ;rw [List.foldl_append];rfl
            rw [hx]
            conv=>whnf
            exact ⟨_,_,_,rfl⟩
        · intro f T' hf
          cases f with
          |rt d=>exact hf.elim
          | nx δ =>
            obtain ⟨v10,v11,v12,rfl⟩:=hf
            rw [Nat.zero_add,List.length_map,List.take_length]
            exact tl2 _ _ _ _ _ (by rw [if_pos c])
      · have c:¬i≠kingZ m t:=by simpa [kingZ] using c
        exact tl2 _ _ _ _ _ (by rw [if_neg c])
     have eq':∀(T U:R.St) (o o':MO),T.get q=some (.lst (Ls.map ltD))->((T.push o).push o').get q=some (.lst (Ls.map ltD)):=fun T U o o' z=>push_old (push_old z)
     have eT:∀(X:List MO),(⟨S.frz++S.new,X,[]⟩:R.St).get q=some (.lst (Ls.map ltD)):=fun X=>get_old e _ _
     cases h with
     | none =>
       rw [if_neg (by simp)]
       exact tail _ (eT _) _
     | some v =>
       conv=>whnf
       refine wIf_p (fun c3=>?_) (fun c3=>?_)
       · rw [if_pos (by simpa using c3)]
         conv=>whnf
         exact wFin_flat (fl _ _) ⟨rfl,rfl⟩
       · rw [if_neg (by simpa using c3)]
         exact tail _ (eT _) _
theorem W_ex {α:Type} {o:Out α} {Q:α->R.St->Prop} (h:W o Q):∃a T,o=.ok a T/\Q a T:=by
 cases o with
 |ok a T=>exact ⟨a,T,rfl,h⟩
 |err d T=>exact h.elim
 |bad=>exact h.elim
theorem app_W {P:List Fn} {F:Fn} {f n:Nat} {ds:List D} {S:R.St} {Q:D->R.St->Prop} (h:P[f]?=some F) (hl:ds.length=F.np) (w:wS (callF P n) F.body (startE F ds) S.enter fun r T=>wFin S r T Q) (hp:F.prim=none:=by rfl) :
  W (app (callF P (n+1)) f ds S) Q:=by
 rw [app_eq h hl hp,W_bind]
 refine (wS_W _ w).mono fun r T q=>?_
 unfold wFin at q;exact q
noncomputable def wbZ (m s t:Int):List Int:=if t=1 then [s] else if t % 3=1 then [kingZ m t] else rg m
noncomputable def wlZ (m i s t:Int):List Int:=(wbZ m s t).filter fun o=>!decide (o=i)
theorem flats_ints (N:Nat) (xs:List Int):flats N (xs.map .int)=true:=by
 induction xs with
 |nil=>rfl
 |cons x xs ih=>rw [List.map_cons];unfold flats;rw [ih];rfl
theorem filt_int (i:Int) (xs:List Int):((xs.map D.int).filter fun d=>match d with|.int o=>!decide (o=i)|_=>false).map (fun d=>d)=(xs.filter fun o=>!decide (o=i)).map .int:=filter_ints (fun o=>!decide (o=i)) .int _ _ (fun o=>rfl) (fun o=>rfl) xs
theorem s_writers {n:Nat} {S:R.St} {m b i s t:Int} (hm:0<m) (hm7:m<=7):app (callF prog (n+1)) 10 [.tup [.int m,.int b],.int i,.int t,.int s] S=.ok (.ref S.len) (S.push (.lst ((wlZ m i s t).map .int))):=by
 refine app_ok (F:=c_law_writers) rfl rfl ?_
 have go:∀(xs:List Int) (T:R.St) (rest:Ev) (o:Option D),rest=[some (.int i)]->turnsC [0] (evT (callF prog n) (.cmp .NotEq (.loc 0) (.loc 1))) (evE (callF prog n) (.loc 0)) (xs.map .int) (o::rest) T=.ok ((xs.filter fun o=>!decide (o=i)).map .int) T:=by
  intro xs T rest o hr
  subst hr
  rw [<-filt_int]
  refine turnsC_pure (fun d=>match d with|.int o=>!decide (o=i)|_=>false) (fun d=>d) _ o (fun z hz=>?_) (fun z hz _=>rfl)
  obtain ⟨o,_,rfl⟩:=List.mem_map.mp hz
  rfl
 unfold wlZ wbZ
 conv=>whnf
 refine wIf_p (fun c1=>?_) (fun c1=>?_)
 · rw [if_pos c1]
   conv=>whnf
   refine wNeed_of (by first|decide|omega|(simp;done)|(simp;omega)) ?_
   conv=>whnf
   refine wGet_new rfl ?_
   conv=>whnf
   refine wLock_of ?_
   refine W.of (go [s] _ _ _ rfl) ?_
   have hl:(([s].filter fun o=>!decide (o=i)).map D.int).length<=16777216:=by rw [List.length_map];exact Nat.le_trans (List.length_filter_le _ _) (by simp)
   refine wNeed_of hl ?_
   conv=>whnf
   refine wNeed_of hl ?_
   conv=>whnf
   exact wFin_new (i:=1) rfl (flats_ints _ _) ⟨rfl,rfl⟩
 · rw [if_neg c1]
   conv=>whnf
   repeat (first|(refine wNeed_of (by first|decide|omega|(simp;done)|(simp;omega)) ?_;conv=>whnf)|(refine wGet_new rfl ?_;conv=>whnf)|(refine wPut_new rfl ?_;conv=>whnf)|(refine wGet_old (by assumption) ?_;conv=>whnf))
   refine wIf_p (fun c2=>?_) (fun c2=>?_)
   · rw [if_pos c2]
     conv=>whnf
     repeat (first|(refine wNeed_of (by first|decide|omega|(simp;done)|(simp;omega)) ?_;conv=>whnf)|(refine wGet_new rfl ?_;conv=>whnf)|(refine wPut_new rfl ?_;conv=>whnf)|(refine wGet_old (by assumption) ?_;conv=>whnf))
     refine wOpt_of (atI_0) ?_
     conv=>whnf
     refine wNeed_of hm ?_
     conv=>whnf
     refine wNeed_of (by first|decide|omega|(simp;done)|(simp;omega)) ?_
     conv=>whnf
     refine wGet_new rfl ?_
     conv=>whnf
     refine wLock_of ?_
     refine W.of (go [kingZ m t] _ _ _ rfl) ?_
     have hl:(([kingZ m t].filter fun o=>!decide (o=i)).map D.int).length<=16777216:=by rw [List.length_map];exact Nat.le_trans (List.length_filter_le _ _) (by simp)
     refine wNeed_of hl ?_
     conv=>whnf
     refine wNeed_of hl ?_
     conv=>whnf
     exact wFin_new (i:=1) rfl (flats_ints _ _) ⟨rfl,rfl⟩
   · rw [if_neg c2]
     conv=>whnf
     refine wOpt_of (atI_0) ?_
     conv=>whnf
     refine wNeed_of (by omega) ?_
     conv=>whnf
     refine wLock_of ?_
     have hx:((List.range m.toNat).map fun (k:Nat)=>D.int (k:Int))=(rg m).map .int:=by unfold rg;rw [List.map_map];rfl
     rw [hx]
     refine W.of (go (rg m) _ _ _ rfl) ?_
     have hl:(((rg m).filter fun o=>!decide (o=i)).map D.int).length<=16777216:=by
      rw [List.length_map]
      refine Nat.le_trans (List.length_filter_le _ _) ?_
      unfold rg
      rw [List.length_map,List.length_range]
      omega
     refine wNeed_of hl ?_
     conv=>whnf
     refine wNeed_of hl ?_
     conv=>whnf
     exact wFin_new (i:=0) rfl (flats_ints _ _) ⟨rfl,rfl⟩
theorem s_digit {n:Nat} {S:R.St} {ns:List Int} {k:Int} (hk:0<=k):∃v:Int,app (callF prog (n+2)) 11 [.fix (ns.map .int),.int 6,.int k] S=.ok (.int v) S/\0<=v/\v<12:=by
 have:W (app (callF prog (n+2)) 11 [.fix (ns.map .int),.int 6,.int k] S) fun d T=>T=S/\∃v:Int,d=.int v/\0<=v/\v<12:=by
  refine app_W (F:=c_law_digit) rfl rfl ?_
  conv=>whnf
  repeat (first|(refine wNeed_of (by first|decide|omega|(simp;done)|(simp;omega)) ?_;conv=>whnf)|(refine wGet_new rfl ?_;conv=>whnf)|(refine wPut_new rfl ?_;conv=>whnf)|(refine wGet_old (by assumption) ?_;conv=>whnf))
  refine wOut_of (s_cellZ (n:=n) (by omega)) ?_
  conv=>whnf
  repeat (first|(refine wNeed_of (by first|decide|omega|(simp;done)|(simp;omega)) ?_;conv=>whnf)|(refine wGet_new rfl ?_;conv=>whnf)|(refine wPut_new rfl ?_;conv=>whnf)|(refine wGet_old (by assumption) ?_;conv=>whnf))
  refine wLock_of ?_
  refine W.mono (turnsF_inv (fun j δ T=>∃c v4,δ=[some (.fix (ns.map .int)),some (.int 6),some (.int k),some (.int c),v4]) (fun _ _=>False) _ 0 _ _ ⟨_,none,rfl⟩ ?_) ?_
  · rintro j z δ T hz ⟨c,v4,rfl⟩
    refine ⟨_,rfl,wS_W _ ?_⟩
    conv=>whnf
    repeat (first|(refine wNeed_of (by first|decide|omega|(simp;done)|(simp;omega)) ?_;conv=>whnf)|(refine wGet_new rfl ?_;conv=>whnf)|(refine wPut_new rfl ?_;conv=>whnf)|(refine wGet_old (by assumption) ?_;conv=>whnf))
    exact ⟨_,_,rfl⟩
  · intro f T hf
    cases f with
    |rt d=>exact hf.elim
    | nx δ =>
      obtain ⟨c,v4,rfl⟩:=hf
      conv=>whnf
      repeat (first|(refine wNeed_of (by first|decide|omega|(simp;done)|(simp;omega)) ?_;conv=>whnf)|(refine wGet_new rfl ?_;conv=>whnf)|(refine wPut_new rfl ?_;conv=>whnf)|(refine wGet_old (by assumption) ?_;conv=>whnf))
      exact wFin_flat rfl ⟨rfl,_,rfl,Int.emod_nonneg _ (by decide),Int.emod_lt_of_pos _ (by decide)⟩
 obtain ⟨d,T,e,rfl,v,rfl,h1,h2⟩:=W_ex this
 exact ⟨v,e,h1,h2⟩
noncomputable def ltG (N:Nat) (Ls:List (Int × Option Int)):flats N (Ls.map ltD)=true:=by
 induction Ls with
 |nil=>rfl
 | cons x xs ih =>
   rw [List.map_cons];unfold flats;rw [ih]
   obtain ⟨x1,x2⟩:=x
   cases x2<;>rfl
theorem at_oD {os:List (Option Int)} {v:Int} (h0:0<=v) (h1:v<os.length):∃o,atI (os.map oD) v=some (oD o):=by
 have hl:v.toNat<os.length:=by omega
 refine ⟨os[v.toNat],?_⟩
 have:=atI_nat (xs:=os.map oD) (k:=v.toNat) (x:=oD os[v.toNat]) (by simp [hl])
 rw [show ((v.toNat:Nat):Int)=v by omega] at this
 exact this
theorem wOut_ex {o:Out D} {T:R.St} {Q:D->R.St->Prop} (h:∃v:Int,o=.ok (.int v) T/\0<=v/\v<12) (q:∀v:Int,0<=v->v<12->Q (.int v) T):wOut o Q:=by
 obtain ⟨v,e,h1,h2⟩:=h
 exact wOut_of e (q v h1 h2)
noncomputable def LI (S:R.St) (ns Wr:List Int) (at' w:Int) (h:Option Int) (q j:Nat) (δ:Ev) (T:R.St):Prop:=∃(Ls:List (Int × Option Int)) (nw:List MO) (sd:Int) (v7 v8 v9 v10 v11:Option D),T=⟨S.frz++S.new,.lst (Ls.map ltD)::nw,[]⟩/\Ls.length<=j/\(∀x∈Ls,x.1∈Wr)/\δ=[some (.fix (ns.map .int)),some (.int at'),some (.ref q),some (oD h),some (.int w),some (.ref ((S.frz++S.new).length+0)),some (.int sd),v7,v8,v9,v10,v11]
theorem s_letters {n q:Nat} {S:R.St} {ns Wr:List Int} {at' w:Int} {h:Option Int} (hW:S.get q=some (.lst (Wr.map .int))) (hl:Wr.length<=7) (h6:6<=at') :
  ∃Ls:List (Int × Option Int),app (callF prog (n+3)) 12 [.fix (ns.map .int),.int at',.ref q,oD h,.int w] S=.ok (.ref S.len) (S.push (.lst (Ls.map ltD)))/\Ls.length<=Wr.length/\∀x∈Ls,x.1∈Wr:=by
 have:W (app (callF prog (n+3)) 12 [.fix (ns.map .int),.int at',.ref q,oD h,.int w] S) fun d T=>d=.ref S.len/\∃Ls:List (Int × Option Int),T=S.push (.lst (Ls.map ltD))/\Ls.length<=Wr.length/\∀x∈Ls,x.1∈Wr:=by
  refine app_W (F:=c_law_letters) rfl rfl ?_
  conv=>whnf
  refine wNeed_of (by first|decide|omega|(simp;done)|(simp;omega)) ?_
  conv=>whnf
  refine wOut_of (s_cell (n:=n+1) (k:=5)) ?_
  conv=>whnf
  refine wNeed_of (by simp [mulOk]) ?_
  conv=>whnf
  refine wNeed_of (by simp [mulOk]) ?_
  conv=>whnf
  refine wNeed_of (by first|decide|omega|(simp;done)|(simp;omega)) ?_
  conv=>whnf
  refine wGet_old hW ?_
  conv=>whnf
  refine wNeed_of (by rw [List.length_map];omega) ?_
  conv=>whnf
  refine wLock_of ?_
  refine W.mono (turnsF_inv (fun j δ T=>LI S ns Wr at' w h q j δ T) (fun _ _=>False) _ 0 _ _ ⟨[],[],_,none,none,none,none,none,rfl,Nat.le_refl _,by simp,rfl⟩ ?_) ?_
  · rintro j z δ T hz ⟨Ls,nw,sd,v7,v8,v9,v10,v11,rfl,hj,hx,rfl⟩
    rw [Nat.zero_add] at hj⊢
    have hjl:j<Wr.length:=by
     have:=(List.getElem?_eq_some_iff.mp hz).1
     simpa using this
    have hz':z=.int (j:Int):=by
     have:=(List.getElem?_eq_some_iff.mp hz).2
     rw [<-this];simp
    subst hz'
    refine ⟨_,rfl,wS_W _ ?_⟩
    have hWj:atI (Wr.map D.int) (j:Int)=some (.int Wr[j]):=atI_nat (by simp [hjl])
    have hmem:Wr[j]∈Wr:=List.getElem_mem hjl
    have grow:∀(nw':List MO) (sd:Int) (o:Option Int) (v7 v8 v9 v10 v11:Option D),LI S ns Wr at' w h q (j+1) [some (.fix (ns.map .int)),some (.int at'),some (.ref q),some (oD h),some (.int w),some (.ref ((S.frz++S.new).length+0)),some (.int sd),v7,v8,v9,v10,v11] ⟨S.frz++S.new,.lst (Ls.map ltD++[ltD (Wr[j],o)])::nw',[]⟩:=by
     intro nw' sd o v7 v8 v9 v10 v11
     refine ⟨Ls++[(Wr[j],o)],nw',sd,v7,v8,v9,v10,v11,by simp,by simp;omega,?_,rfl⟩
     intro x hx'
     rcases List.mem_append.mp hx' with z|z
     · exact hx x z
     · simp at z;subst z;exact hmem
    have same:∀(nw':List MO) (sd:Int) (v7 v8 v9 v10 v11:Option D),LI S ns Wr at' w h q (j+1) [some (.fix (ns.map .int)),some (.int at'),some (.ref q),some (oD h),some (.int w),some (.ref ((S.frz++S.new).length+0)),some (.int sd),v7,v8,v9,v10,v11] ⟨S.frz++S.new,.lst (Ls.map ltD)::nw',[]⟩:=fun nw' sd v7 v8 v9 v10 v11=>⟨Ls,nw',sd,v7,v8,v9,v10,v11,rfl,by omega,hx,rfl⟩
    have rest:∀(sd c:Int) (v9 v10 v11:Option D),wS (callF prog (n+2)) (.asg 9 (.bin .FloorDiv (.loc 8) (.con (D.int 9))) (.asg 10 (.lst (.cons (.con (D.int 0)) (.cons (.con (D.int 1)) (.cons (.con (D.int 1)) (.cons (.loc 4) (.cons (.loc 3) (.cons (.loc 3) (.cons (.con D.non) (.cons (.bin .Sub (.bin .Mod (.loc 9) (.bin .Sub (.bin .Mult (.con (D.int 2)) (.bin .Pow (.con (D.int 10)) (.con (D.int 60)))) (.con (D.int 1)))) (.bin .Sub (.bin .Pow (.con (D.int 10)) (.con (D.int 60))) (.con (D.int 1)))) .nil))))))))) (.ifS (.cmp .Eq (.bin .Mod (.call 6 0 (.cons (.loc 0) (.cons (.con (D.int 5)) .nil))) (.con (D.int 2))) (.con (D.int 1))) (.asg 11 (.call 11 0 (.cons (.loc 0) (.cons (.con (D.int 6)) (.cons (.bin .Add (.bin .Sub (.loc 1) (.con (D.int 6))) (.loc 7)) .nil)))) (.ifS (.cmp .Lt (.loc 11) (.con (D.int 11))) (.expr (.mt .append (.loc 5) (.cons (.tup (.cons (.tup (.cons (.ix (.loc 2) (.loc 7)) .nil)) (.cons (.ix (.lst (.cons (.con (D.int 0)) (.cons (.con (D.int 1)) (.cons (.con (D.int 2)) (.cons (.con (D.int 3)) (.cons (.loc 4) (.cons (.loc 3) (.cons (.con D.non) (.cons (.bin .Sub (.con (D.int 0)) (.con (D.int 1))) (.cons (.bin .Sub (.con (D.int 0)) (.loc 4)) (.cons (.con (D.int 4)) (.cons (.con (D.int 5)) .nil)))))))))))) (.loc 11)) .nil))) .nil)) .nil) .nil .nil)) (.ifS (.cmp .Lt (.bin .Mod (.loc 8) (.con (D.int 9))) (.con (D.int 8))) (.expr (.mt .append (.loc 5) (.cons (.tup (.cons (.tup (.cons (.ix (.loc 2) (.loc 7)) .nil)) (.cons (.ix (.loc 10) (.bin .Mod (.loc 8) (.con (D.int 9)))) .nil))) .nil)) .nil) .nil .nil) .nil))) [some (.fix (ns.map .int)),some (.int at'),some (.ref q),some (oD h),some (.int w),some (.ref ((S.frz++S.new).length+0)),some (.int sd),some (.int j),some (.int c),v9,v10,v11] ⟨S.frz++S.new,.lst (Ls.map ltD)::nw,[]⟩ fun f S'=>match f with
     |.nx δ2=>LI S ns Wr at' w h q (j+1) δ2 S'
     |.rt d=>False:=by
     intro sd c v9 v10 v11
     conv=>whnf
     repeat (first|(refine wNeed_of (by first|decide|omega|(simp;done)|(simp;omega)) ?_;conv=>whnf)|(refine wGet_new rfl ?_;conv=>whnf)|(refine wPut_new rfl ?_;conv=>whnf)|(refine wGet_old (by assumption) ?_;conv=>whnf))
     refine wOut_of (s_cell (n:=n+1) (k:=5)) ?_
     conv=>whnf
     refine wNeed_of (by first|decide|omega|(simp;done)|(simp;omega)) ?_
     conv=>whnf
     have hlt:(Ls.map ltD).length<=100:=by rw [List.length_map];omega
     refine wIf_p (fun c1=>?_) (fun c1=>?_)
     · conv=>whnf
       refine wOut_ex (s_digit (n:=n) (ns:=ns) (k:=at' - 6+j) (by omega)) fun v h0 h12=>?_
       conv=>whnf
       refine wIf_p (fun c2=>?_) (fun c2=>?_)
       · obtain ⟨o,ho⟩:=at_oD (os:=[some 0,some 1,some 2,some 3,some w,h,none,some (0 - 1),some (0 - w),some 4,some 5]) h0 (by simpa using c2)
         conv=>whnf
         refine wGet_new rfl ?_
         conv=>whnf
         refine wOpt_of (get_old hW _ _) ?_
         conv=>whnf
         refine wOpt_of (hWj) ?_
         conv=>whnf
         refine wNeed_of (by first|decide|omega|(simp;done)|(simp;omega)) ?_
         conv=>whnf
         refine wNeed_of (by first|decide|omega|(simp;done)|(simp;omega)) ?_
         conv=>whnf
         refine wOpt_of (push_get _ _) ?_
         conv=>whnf
         refine wOpt_of (ho) ?_
         conv=>whnf
         refine wNeed_of (by first|decide|omega|(simp;done)|(simp;omega)) ?_
         conv=>whnf
         refine wGet_new rfl ?_
         conv=>whnf
         refine wNeed_of (by simp only [List.length_append,List.length_cons,List.length_nil];omega) ?_
         conv=>whnf
         refine wPut_new rfl ?_
         conv=>whnf
         exact grow _ _ _ _ _ _ _ _
       · conv=>whnf
         exact same _ _ _ _ _ _ _
     · conv=>whnf
       refine wNeed_of (by first|decide|omega|(simp;done)|(simp;omega)) ?_
       conv=>whnf
       refine wIf_p (fun c2=>?_) (fun c2=>?_)
       · obtain ⟨o,ho⟩:=at_oD (os:=[some 0,some 1,some 1,some w,h,h,none,some (c / 9 % (2 * 10 ^ Int.toNat 60 - 1) - (10 ^ Int.toNat 60 - 1))]) (Int.emod_nonneg c (by decide:(9:Int)≠0)) (by simpa using c2)
         conv=>whnf
         refine wGet_new rfl ?_
         conv=>whnf
         refine wOpt_of (get_old hW _ _) ?_
         conv=>whnf
         refine wOpt_of (hWj) ?_
         conv=>whnf
         refine wNeed_of (by first|decide|omega|(simp;done)|(simp;omega)) ?_
         conv=>whnf
         refine wNeed_of (by first|decide|omega|(simp;done)|(simp;omega)) ?_
         conv=>whnf
         refine wOpt_of (push_get _ _) ?_
         conv=>whnf
         refine wOpt_of (ho) ?_
         conv=>whnf
         refine wNeed_of (by first|decide|omega|(simp;done)|(simp;omega)) ?_
         conv=>whnf
         refine wGet_new rfl ?_
         conv=>whnf
         refine wNeed_of (by simp only [List.length_append,List.length_cons,List.length_nil];omega) ?_
         conv=>whnf
         refine wPut_new rfl ?_
         conv=>whnf
         exact grow _ _ _ _ _ _ _ _
       · conv=>whnf
         exact same _ _ _ _ _ _ _
    conv=>whnf
    refine wNeed_of (by simp [mulOk]) ?_
    conv=>whnf
    refine wNeed_of (by simp [mulOk]) ?_
    conv=>whnf
    refine wNeed_of (by unfold mulOk;simp;omega) ?_
    conv=>whnf
    refine wNeed_of (by first|decide|omega|(simp;done)|(simp;omega)) ?_
    conv=>whnf
    refine wNeed_of (by first|decide|omega|(simp;done)|(simp;omega)) ?_
    conv=>whnf
    refine wIf_p (fun c=>?_) (fun c=>?_)
    · conv=>whnf
      refine wOut_of (s_cellZ (n:=n+1) (k:=at'+j) (by omega)) ?_
      conv=>whnf
      exact rest _ _ _ _ _
    · exact rest _ _ _ _ _
  · intro f T hf
    cases f with
    |rt d=>exact hf.elim
    | nx δ =>
      obtain ⟨Ls,nw,sd,v7,v8,v9,v10,v11,rfl,hj,hx,rfl⟩:=hf
      conv=>whnf
      refine wFin_new (i:=0) rfl (ltG _ _) ⟨rfl,Ls,rfl,?_,hx⟩
      simpa using hj
 obtain ⟨d,T,e,rfl,Ls,rfl,h1,h2⟩:=W_ex this
 exact ⟨Ls,e,h1,h2⟩
theorem ty_lst {S:R.St} {l:Nat} {ds:List D} (h:S.get l=some (.lst ds)):tyOf S (.ref l)=some "list":=by unfold tyOf;dsimp only;rw [h]
theorem zip_of {S:R.St} {l m:Nat} {xs ys:List D} (h1:S.get l=some (.lst xs)) (h2:S.get m=some (.lst ys)):zipOf S (.ref l) (.ref m)=some (List.zipWith pairD xs ys,[l,m]):=by unfold zipOf;dsimp only;rw [h1,h2]
theorem zip_self {α:Type} (g:α->D):∀xs:List α,List.zipWith pairD (xs.map g) (xs.map g)=xs.map fun o=>pairD (g o) (g o)
 | []=>rfl
 |x::xs=>by simp [zip_self g xs]
noncomputable def toL (m i:Int) (y:Bool):List Int:=if y then (rg m).filter fun o=>!decide (o=i) else []
theorem say_to (m i:Int) (h:Option Int) (y:Bool):sayL m i h y=(toL m i y).map (rwD i h):=by cases y<;>rfl
theorem toL_len {m i:Int} {y:Bool} (hm7:m<=7):(toL m i y).length<=7:=by
 unfold toL
 cases y with
 |false=>simp
 | true =>
   rw [if_pos rfl]
   refine Nat.le_trans (List.length_filter_le _ _) ?_
   unfold rg
   rw [List.length_map,List.length_range]
   omega
theorem s_told {n f:Nat} {S:R.St} {m i:Int} {h:Option Int} {y:Bool} (hf:S.get f=some (.lst (sayL m i h y))) (hm:0<m) (hm7:m<=7):app (callF prog (n+2)) 13 [.ref f,.int i,.int m,oD h,.bl y] S=.ok (.bl true) S:=by
 refine app_ok (F:=c_law_told) rfl rfl ?_
 rw [say_to] at hf
 have hln:=toL_len (i:=i) (y:=y) hm7
 conv=>whnf
 refine wNeed_of (by omega) ?_
 conv=>whnf
 refine wLock_of ?_
 refine W.of (d:=(toL m i y).map (rwD i h)) (S:=S.enter) ?_ ?_
 · have:=turnsC_pure (c:=evT (callF prog (n+1)) (.and (.cmp .NotEq (.loc 0) (.loc 2)) (.tst (.loc 3)))) (e:=evE (callF prog (n+1)) (.tup (.cons (.tup (.cons (.loc 2) .nil)) (.cons (.loc 0) (.cons (.loc 1) .nil))))) (S:=S.enter) (rest:=[some (oD h),some (.int i),some (.bl y)]) (fun d=>match d with|.int o=>!decide (o=i)&&y|_=>false) (fun d=>match d with|.int o=>rwD i h o|d=>d) ((rg m).map .int) none (fun z hz=>?_) (fun z hz _=>?_)
   · have hx:((List.range m.toNat).map fun (k:Nat)=>D.int (k:Int))=(rg m).map .int:=by unfold rg;rw [List.map_map];rfl
     rw [hx]
     refine Eq.trans this ?_
     rw [filter_ints (fun o=>!decide (o=i)&&y) (rwD i h) _ _ (fun o=>rfl) (fun o=>rfl)]
     unfold toL
     cases y<;>simp
   · obtain ⟨o,_,rfl⟩:=List.mem_map.mp hz
     refine W.eq (wT_W _ ?_)
     conv=>whnf
     refine wIf_i (fun c=>?_) (fun c=>?_)
     · conv=>whnf
       exact ⟨by dsimp only;rw [c];simp,rfl⟩
     · conv=>whnf
       exact ⟨by dsimp only;rw [c];simp,rfl⟩
   · obtain ⟨o,_,rfl⟩:=List.mem_map.mp hz
     refine W.eq (wE_W _ ?_)
     conv=>whnf
     refine wNeed_of (by first|decide|omega|(simp;done)|(simp;omega)) ?_
     conv=>whnf
     refine wNeed_of (by first|decide|omega|(simp;done)|(simp;omega)) ?_
     conv=>whnf
     exact ⟨rfl,rfl⟩
 · refine wNeed_of (by rw [List.length_map];omega) ?_
   conv=>whnf
   refine wNeed_of (by rw [List.length_map];omega) ?_
   conv=>whnf
   refine wOpt_of (ty_lst (get_old hf _ _)) ?_
   conv=>whnf
   refine wOpt_of (get_old hf _ _) ?_
   conv=>whnf
   refine wGet_new rfl ?_
   conv=>whnf
   refine wIf_f (by simp) ?_
   conv=>whnf
   refine wOpt_of (zip_of (get_old hf _ _) (get_new (S.frz++S.new) _ _ 0)) ?_
   rw [zip_self]
   conv=>whnf
   refine wLock_of ?_
   refine W.mono (turnsF_inv (fun j δ T=>∃v6 v7,δ=[some (.ref f),some (.int i),some (.int m),some (oD h),some (.bl y),some (.ref ((S.frz++S.new).length+0)),v6,v7]) (fun _ _=>False) _ 0 _ _ ⟨none,none,rfl⟩ ?_) ?_
   · rintro j z δ T hz ⟨v6,v7,rfl⟩
     rw [List.getElem?_map] at hz
     cases e:(toL m i y)[j]? with
     |none=>rw [e] at hz;cases hz
     | some o =>
       rw [e] at hz;cases hz
       refine ⟨_,rfl,wS_W _ ?_⟩
       conv=>whnf
       refine wOpt_of ((show tyOf T (rwD i h o)=some "tuple" from rfl)) ?_
       conv=>whnf
       refine wOpt_of (atI_0) ?_
       conv=>whnf
       refine wOpt_of ((show tyOf T (.tup [.int i])=some "tuple" from rfl)) ?_
       conv=>whnf
       refine wOpt_of (atI_0) ?_
       conv=>whnf
       refine wOpt_of (atI_0) ?_
       conv=>whnf
       refine wOpt_of (atI_0) ?_
       conv=>whnf
       refine wOut_of (s_like (n:=n) (o:=some i)) ?_
       conv=>whnf
       refine wOpt_of (atI_1) ?_
       conv=>whnf
       refine wOpt_of (atI_1) ?_
       conv=>whnf
       refine wOut_of (s_like (n:=n) (o:=some o)) ?_
       conv=>whnf
       refine wOpt_of ((show atI [.tup [.int i],.int o,oD h] 2=some (oD h) from rfl)) ?_
       conv=>whnf
       refine wOut_of (s_like (n:=n) (o:=h)) ?_
       conv=>whnf
       exact ⟨_,_,rfl⟩
   · intro g T hg
     cases g with
     |rt d=>exact hg.elim
     | nx δ =>
       obtain ⟨v6,v7,rfl⟩:=hg
       conv=>whnf
       exact wFin_flat rfl ⟨rfl,rfl⟩
theorem s_says {n a l:Nat} {S:R.St} {m b i s k t:Int} {w h:Option Int} (e:S.get a=some (hD m b i s w h k l)) (hm:0<m) (hm7:m<=7):app (callF prog (n+4)) 14 [.ref a,.int t,.int i,.int m,oD h,.bl (decide (i∈wrZ m s t))] S=.ok (.bl true) S:=by
 refine app_ok (F:=c_law_says) rfl rfl ?_
 have e0:S.enter.get a=some (hD m b i s w h k l):=(congrFun (get_enter S) a).trans e
 conv=>whnf
 refine wOpt_of (insOf_of e0) ?_
 conv=>whnf
 refine wOpt_of (rfl) ?_
 conv=>whnf
 refine wNeed_of rfl ?_
 conv=>whnf
 refine wOut_of (m_say (n:=n) (t:=t) e0 hm hm7) ?_
 conv=>whnf
 have g1:((sayS S.enter m i s t).push (.lst (sayL m i h (decide (i∈wrZ m s t))))).get (sayS S.enter m i s t).len=some (.lst (sayL m i h (decide (i∈wrZ m s t)))):=push_get _ _
 have e1:((sayS S.enter m i s t).push (.lst (sayL m i h (decide (i∈wrZ m s t))))).get a=some (hD m b i s w h k l):=push_old (push_old e0)
 obtain ⟨U,h1,h2,h3,h4,h5,h6⟩:=put_some (S:=(sayS S.enter m i s t).push (.lst (sayL m i h (decide (i∈wrZ m s t))))) (l:=(sayS S.enter m i s t).len) (.lst []) (by
  show (S.frz++S.new).length<=_
  unfold sayS
  rw [plen]
  unfold St.enter St.len
  simp) rfl
 have hne:a≠(sayS S.enter m i s t).len:=by
  have:=get_lt e0
  unfold sayS
  rw [plen]
  omega
 have e2:U.get a=some (hD m b i s w h k l):=(h5 a hne).trans e1
 refine wOut_of (s_told (n:=n+1) g1 hm hm7) ?_
 conv=>whnf
 refine wOpt_of (g1) ?_
 conv=>whnf
 refine wNeed_of (by first|decide|omega|(simp;done)|(simp;omega)) ?_
 conv=>whnf
 refine wOpt_of (h1) ?_
 conv=>whnf
 refine wOpt_of (insOf_of e2) ?_
 conv=>whnf
 refine wOpt_of (rfl) ?_
 conv=>whnf
 refine wNeed_of rfl ?_
 conv=>whnf
 refine wOut_of (m_say (n:=n) (t:=t) e2 hm hm7) ?_
 conv=>whnf
 refine wOut_of (s_told (n:=n+1) (push_get _ _) hm hm7) ?_
 conv=>whnf
 exact wFin_flat rfl ⟨rfl,rfl⟩
theorem s_hand {n a l:Nat} {S:R.St} {m b i s k:Int} {w h:Option Int} (e:S.get a=some (hD m b i s w h k l)) (hb:0<=b) (hb5:b<=5):app (callF prog (n+1)) 15 [.ref a,.int i,.tup [.int m,.int b]] S=.ok (.bl true) S:=by
 refine app_ok (F:=c_law_is_hand) rfl rfl ?_
 have e0:∀nw,(⟨S.frz++S.new,nw,[]⟩:R.St).get a=some (hD m b i s w h k l):=fun nw=>get_old e _ _
 have hr:4+3 * b=1+3 * (b+1):=by omega
 conv=>whnf
 refine wOpt_of (f_number (e0 _)) ?_
 conv=>whnf
 refine wOpt_of (f_many (e0 _)) ?_
 conv=>whnf
 refine wOpt_of (f_rounds (e0 _)) ?_
 conv=>whnf
 refine wNeed_of (by first|decide|omega|(simp;done)|(simp;omega)) ?_
 conv=>whnf
 refine wOpt_of (atI_0) ?_
 conv=>whnf
 refine wOpt_of (atI_1) ?_
 conv=>whnf
 refine wNeed_of (by simp [mulOk]) ?_
 conv=>whnf
 refine wNeed_of (by first|decide|omega|(simp;done)|(simp;omega)) ?_
 conv=>whnf
 rw [hr]
 refine wOpt_of (cmp_ne_same (ds:=[.int i,.int m,.int (1+3 * (b+1))]) (xs:=[.int i,.int m,.int (1+3 * (b+1))]) (get_new (S.frz++S.new) [_,_] [] 0) (get_new (S.frz++S.new) [_,_] [] 1) rfl) ?_
 conv=>whnf
 refine wOpt_of (insOf_of (e0 _)) ?_
 conv=>whnf
 exact wFin_flat rfl ⟨rfl,rfl⟩
theorem turnsC_like {n:Nat} {T:R.St}:∀(ws:List (Option Int)) (u v:Option D),turnsC [0,1] (evT (callF prog (n+1)) (.tst (.con (.bl true)))) (evE (callF prog (n+1)) (.call 7 0 (.cons (.loc 0) (.cons (.loc 1) .nil)))) (ws.map fun o=>pairD (oD o) (oD o)) [u,v] T=.ok (ws.map fun _=>.bl true) T
 | [],u,v=>rfl
 | x :: ws, u, v => by
   have ih:=turnsC_like (n:=n) (T:=T) ws (some (oD x)) (some (oD x))
   simp only [List.map_cons,pairD,turnsC,asgG,asgAll,List.length_cons,List.length_nil,if_true,List.set_cons_zero,List.set_cons_succ]
   show Out.bind (.ok true T) _=_
   rw [bind_ok,if_pos rfl]
   rw [show evE (callF prog (n+1)) (.call 7 0 (.cons (.loc 0) (.cons (.loc 1) .nil))) [some (oD x),some (oD x)] T=.ok (.bl true) T from s_like (n:=n) (o:=x) (S:=T)]
   rw [bind_ok,show (turnsC [0,1] (evT (callF prog (n+1)) (.tst (.con (.bl true)))) (evE (callF prog (n+1)) (.call 7 0 (.cons (.loc 0) (.cons (.loc 1) .nil)))) (List.map (fun o=>.tup [oD o,oD o]) ws) [some (oD x),some (oD x)] T)=_ from ih,bind_ok]
theorem all_true {α:Type}:∀ws:List α,allD (ws.map fun _=>D.bl true)=some true
 | []=>rfl
 | x :: ws => by
   have ih:=all_true ws
   unfold allD at ih⊢
   rw [List.map_cons,List.mapM_cons]
   cases q:(ws.map fun _=>D.bl true).mapM boolOf with
   |none=>rw [q] at ih;cases ih
   |some bs=>rw [q] at ih;simpa [boolOf] using ih
theorem s_storied {n a l d:Nat} {S:R.St} {m b i s k:Int} {w h:Option Int} {ws:List (Option Int)} (e:S.get a=some (hD m b i s w h k l)) (el:S.get l=some (.lst (ws.map oD))) (ed:S.get d=some (.lst (ws.map oD))) (hws:ws.length<=1000):app (callF prog (n+2)) 16 [.ref a,.ref d] S=.ok (.bl true) S:=by
 refine app_ok (F:=c_law_storied) rfl rfl ?_
 have e0:S.enter.get a=some (hD m b i s w h k l):=(congrFun (get_enter S) a).trans e
 have el0:S.enter.get l=some (.lst (ws.map oD)):=(congrFun (get_enter S) l).trans el
 have ed0:(S.enter.push (.lst (ws.map oD))).get d=some (.lst (ws.map oD)):=push_old ((congrFun (get_enter S) d).trans ed)
 have g1:(S.enter.push (.lst (ws.map oD))).get S.enter.len=some (.lst (ws.map oD)):=push_get _ _
 obtain ⟨U,h1,h2,h3,h4,h5,h6⟩:=put_some (S:=S.enter.push (.lst (ws.map oD))) (l:=S.enter.len) (.lst []) (by
  show (S.frz++S.new).length<=_
  unfold St.enter St.len
  simp) rfl
 conv=>whnf
 refine wOpt_of (insOf_of e0) ?_
 conv=>whnf
 refine wOpt_of (rfl) ?_
 conv=>whnf
 refine wNeed_of rfl ?_
 conv=>whnf
 refine wOut_of (m_story (n:=n) e0 el0 hws) ?_
 conv=>whnf
 refine wOpt_of (ty_lst g1) ?_
 conv=>whnf
 refine wOpt_of (g1) ?_
 conv=>whnf
 refine wOpt_of (ed0) ?_
 conv=>whnf
 refine wIf_f (by simp) ?_
 conv=>whnf
 refine wOpt_of (zip_of g1 ed0) ?_
 rw [zip_self]
 conv=>whnf
 refine wLock_of ?_
 refine W.of (turnsC_like ws none none) ?_
 refine wNeed_of (by rw [List.length_map];omega) ?_
 conv=>whnf
 refine wOpt_of (all_true ws) ?_
 conv=>whnf
 refine wOpt_of (g1) ?_
 conv=>whnf
 refine wNeed_of (by first|decide|omega|(simp;done)|(simp;omega)) ?_
 conv=>whnf
 refine wOpt_of (h1) ?_
 conv=>whnf
 exact wFin_flat rfl ⟨rfl,rfl⟩
noncomputable def yZ (m i s t:Int):Bool:=((decide (t=1)&&decide (i=s)) || (decide (t > 1)&&!decide (t % 3=1))) || (decide (t > 1)&&decide (i=kingZ m t))
theorem mem_rg {m i:Int} (h0:0<=i) (h1:i<m):i∈rg m:=by
 unfold rg
 refine List.mem_map.mpr ⟨i.toNat,List.mem_range.mpr (by omega),by omega⟩
theorem y_eq {m i s t:Int} (ht:1<=t) (h0:0<=i) (h1:i<m):yZ m i s t=decide (i∈wrZ m s t):=by
 have:=mem_rg h0 h1
 unfold yZ wrZ
 by_cases c1:t=1
 · subst c1;simp
 · have c2:t > 1:=by omega
   by_cases c3:t % 3=1
   · have c4:(t - 2) % 3=2:=by omega
     simp [c1,c2,c3,c4]
   · have c4:¬(t - 2) % 3=2:=by omega
     simp only [c1,c2,c3,c4,if_false]
     have this':i∈List.map (fun (k:Nat)=>(k:Int)) (List.range m.toNat):=this
     simp [this']
noncomputable def wasZ (m b i s t:Int) (h:Option Int) (k:Int) (Ls:List (Int × Option Int)):Option Int × Int:=if t=1 then (if i=s then (h,k) else (some (lfZ Ls),0)) else spZ m b i t h k Ls
theorem agree {m b i s t k k':Int} {h:Option Int} {Ls:List (Int × Option Int)} (ht:1<=t) (hb:0<=b) (hk:t % 3=1->1<t->k=k') (hl:Ls.length<=(wlZ m i s t).length) (hw:∀x∈Ls,x.1∈wlZ m i s t) :
  (wasZ m b i s t h k' Ls).1=(hrZ m b i s t h k Ls).1/\((t+1) % 3=1->(hrZ m b i s t h k Ls).2=(wasZ m b i s t h k' Ls).2):=by
 unfold wasZ hrZ spZ
 by_cases c1:t=1
 · subst c1
   have hl1:Ls.length<=1:=Nat.le_trans hl (Nat.le_trans (List.length_filter_le _ _) (by simp [wbZ]))
   have hw1:∀x∈Ls,x.1=s:=fun x hx=>by
    have:=(List.mem_filter.mp (hw x hx)).1
    simpa [wbZ] using this
   have:=(one_wf hl1 hw1).1
   refine ⟨?_,fun z=>absurd z (by decide)⟩
   by_cases c:i=s
   · simp [c]
   · simp [c,this]
 · simp only [c1,if_false]
   by_cases c2:t % 3=2
   · have c3:(t - 2) % 3=0:=by omega
     simp only [c2,c3,if_true]
     exact ⟨trivial,fun z=>by omega⟩
   · have c3:¬(t - 2) % 3=0:=by omega
     simp only [c2,c3,if_false]
     by_cases c4:t % 3=0
     · have c5:(t - 2) % 3=1:=by omega
       simp only [c4,c5,if_true]
       refine ⟨trivial,fun _=>?_⟩
       unfold bkZ stZ
       by_cases c6:b+1<=(bestZ (wsZ h Ls)).2
       · simp only [c6,if_true]
         exact (best_cnt _ (by omega)).symm
       · simp only [c6,if_false]
     · have c5:¬(t - 2) % 3=1:=by omega
       have c6:t % 3=1:=by omega
       have ek:=hk c6 (by omega)
       subst ek
       simp only [c4,c5,if_false]
       refine ⟨?_,fun z=>by omega⟩
       have hwb:wbZ m s t=[kingZ m t]:=by unfold wbZ;rw [if_neg c1,if_pos c6]
       have hl1:Ls.length<=1:=Nat.le_trans hl (Nat.le_trans (List.length_filter_le _ _) (by rw [hwb];simp))
       have hw1:∀x∈Ls,x.1=kingZ m t:=fun x hx=>by
        have:=(List.mem_filter.mp (hw x hx)).1
        rw [hwb] at this
        simpa using this
       have:=(one_wf hl1 hw1).2
       unfold kgZ
       split
       · rfl
       · split
         · rw [this]
         · rfl
theorem wl_len {m i s t:Int} (hm:0<m) (hm7:m<=7):(wlZ m i s t).length<=7:=by
 refine Nat.le_trans (List.length_filter_le _ _) ?_
 unfold wbZ
 split
 · simp
 · split
   · simp
   · unfold rg
     rw [List.length_map,List.length_range]
     omega
noncomputable def eW1:CE:=(.or (.and (.cmp .Eq (.loc 9) (.con (D.int 1))) (.cmp .Eq (.loc 2) (.loc 3))) (.and (.cmp .Gt (.loc 9) (.con (D.int 1))) (.cmp .NotEq (.bin .Mod (.loc 9) (.con (D.int 3))) (.con (D.int 1)))))
noncomputable def eW2:CE:=(.or (.loc 10) (.and (.cmp .Gt (.loc 9) (.con (D.int 1))) (.cmp .Eq (.loc 2) (.bin .Mod (.bin .FloorDiv (.bin .Sub (.loc 9) (.con (D.int 2))) (.con (D.int 3))) (.ix (.loc 1) (.con (D.int 0)))))))
section
variable {cf:CF} {T:R.St} {m b i s t:Int} {v0 v4 v5 v6 v7 v8 v10 v11 v12:Option D}
theorem la_w1:evE cf eW1 [v0,some (.tup [.int m,.int b]),some (.int i),some (.int s),v4,v5,v6,v7,v8,some (.int t),v10,v11,v12] T=.ok (.bl ((decide (t=1)&&decide (i=s)) || (decide (t > 1)&&!decide (t % 3=1)))) T:=by
 refine W.eq (wE_W _ ?_)
 conv=>whnf
 refine wIf_p (fun c1=>?_) (fun c1=>?_)
 · conv=>whnf
   refine wIf_p (fun c2=>?_) (fun c2=>?_)
   · exact ⟨by simp [c1,c2],rfl⟩
   · conv=>whnf
     refine wIf_p (fun c3=>?_) (fun c3=>?_)
     · omega
     · exact ⟨by simp [c1,c2],rfl⟩
 · conv=>whnf
   refine wIf_p (fun c3=>?_) (fun c3=>?_)
   · conv=>whnf
     refine wNeed_of (by first|decide|omega|(simp;done)|(simp;omega)) ?_
     conv=>whnf
     exact ⟨by simp [c1,c3],rfl⟩
   · exact ⟨by simp [c1,c3],rfl⟩
theorem la_w2 {y:Bool} (hm:0<m):evE cf eW2 [v0,some (.tup [.int m,.int b]),some (.int i),some (.int s),v4,v5,v6,v7,v8,some (.int t),some (.bl y),v11,v12] T=.ok (.bl (y || (decide (t > 1)&&decide (i=kingZ m t)))) T:=by
 refine W.eq (wE_W _ ?_)
 cases y with
 | true =>
   conv=>whnf
   exact ⟨rfl,rfl⟩
 | false =>
   conv=>whnf
   refine wIf_p (fun c3=>?_) (fun c3=>?_)
   · conv=>whnf
     refine wNeed_of (by first|decide|omega|(simp;done)|(simp;omega)) ?_
     conv=>whnf
     refine wOpt_of (atI_0) ?_
     conv=>whnf
     refine wNeed_of hm ?_
     conv=>whnf
     exact ⟨by rw [show decide (t > 1)=true from decide_eq_true c3];rfl,rfl⟩
   · exact ⟨by simp [c3],rfl⟩
end
theorem asg_step {cf:CF} {i:Nat} {e:CE} {r:CS} {δ:Ev} {S S':R.St} {d:D} {Q:Fl->R.St->Prop} (h:evE cf e δ S=.ok d S') (w:W (exS cf r (δ.set i (some d)) S') Q):W (exS cf (.asg i e r) δ S) Q:=by rw [exS,h,bind_ok];exact w
theorem exp_step {cf:CF} {e:CE} {r:CS} {δ:Ev} {S S':R.St} {d:D} {Q:Fl->R.St->Prop} (h:evE cf e δ S=.ok d S') (w:W (exS cf r δ S') Q):W (exS cf (.expr e r) δ S) Q:=by rw [exS,h,bind_ok];exact w
theorem if_stepW {cf:CF} {c:CE} {u r:CS} {δ:Ev} {S:R.St} {Q:Fl->R.St->Prop} (w:W (evT cf c δ S) fun k S1=>k=false/\W (exS cf r δ S1) Q):W (exS cf (.ifS c u .nil r) δ S) Q:=by
 rw [exS,W_bind]
 refine w.mono fun k S1 hk=>?_
 obtain ⟨rfl,w1⟩:=hk
 simp only [exS,Bool.false_eq_true,if_false,bind_ok]
 exact w1
theorem if_step {cf:CF} {c:CE} {u r:CS} {δ:Ev} {S:R.St} {Q:Fl->R.St->Prop} (e:evT cf c δ S=.ok false S) (w:W (exS cf r δ S) Q):W (exS cf (.ifS c u .nil r) δ S) Q:=if_stepW (by rw [e];exact ⟨rfl,w⟩)
theorem if2_step {cf:CF} {c e1 e2:CE} {i:Nat} {k:Bool} {r:CS} {δ:Ev} {S S':R.St} {d:D} {Q:Fl->R.St->Prop} (e:evT cf c δ S=.ok k S) (h:evE cf (if k then e1 else e2) δ S=.ok d S') (w:W (exS cf r (δ.set i (some d)) S') Q):W (exS cf (.ifS c (.asg i e1 .nil) (.asg i e2 .nil) r) δ S) Q:=by
 rw [exS,e,bind_ok]
 cases k with
 | true =>
   have h:evE cf e1 δ S=.ok d S':=h
   simp only [exS,if_true,h,bind_ok]
   exact w
 | false =>
   have h:evE cf e2 δ S=.ok d S':=h
   simp only [exS,Bool.false_eq_true,if_false,h,bind_ok]
   exact w
noncomputable def ltP (x:Int × Option Int):PySem.PyData:=.tuple [.tuple [.int x.1],oP x.2]
theorem pd_lt (S:R.St) (n:Nat):∀Ls:List (Int × Option Int),(Ls.map ltD).mapM (pd S (n+2))=some (Ls.map ltP)
 | []=>rfl
 | x :: Ls => by
   obtain ⟨x1,x2⟩:=x
   have e:pd S (n+2) (ltD (x1,x2))=some (ltP (x1,x2)):=by cases x2<;>simp [ltD,ltP,pd,oD,oP]
   rw [List.map_cons,List.mapM_cons,pd_lt S n Ls,e]
   rfl
noncomputable def LW (ns:List Int) (m b i s w0:Int) (w:Option Int) (j:Nat) (δ:Ev) (T:R.St):Prop:=∃(h:Option Int) (k k' at':Int) (ws:List (Option Int)) (v9 v10 v11 v12:Option D),
 T.frz=[]/\T.lk=[]/\T.get 0=some (hD m b i s w h k 1)/\T.get 1=some (.lst (ws.map oD))/\T.get 2=some (.lst (ws.map oD))/\ws.length=j/\(0<j->∃us,ws=us++[h])/\((1+(j:Int)) % 3=1->1<1+(j:Int)->k=k')/\6<=at'/\
 δ=[some (.fix (ns.map .int)),some (.tup [.int m,.int b]),some (.int i),some (.int s),some (.int w0),some (.tup [oD h,.int k']),some (.ref 0),some (.int at'),some (.ref 2),v9,v10,v11,v12]
theorem law_turn {ns:List Int} {m b i s w0:Int} {w:Option Int} {j:Nat} {T:R.St} {h:Option Int} {k k' at':Int} {ws:List (Option Int)} {v10 v11 v12:Option D} (hm:0<m) (hm7:m<=7) (hb:0<=b) (hb5:b<=5) (hi0:0<=i) (him:i<m)
  (f0:T.frz=[]) (k0:T.lk=[]) (g0:T.get 0=some (hD m b i s w h k 1)) (g1:T.get 1=some (.lst (ws.map oD))) (g2:T.get 2=some (.lst (ws.map oD))) (hj:ws.length=j) (hj30:j<=30) (hk:(1+(j:Int)) % 3=1->1<1+(j:Int)->k=k') (h6:6<=at') :
  W (exS (callF prog 9) (.asg 10 eW1 (.asg 10 eW2 (.ifS (.nt (.tst (.call 14 0 (.cons (.loc 6) (.cons (.loc 9) (.cons (.loc 2) (.cons (.ix (.loc 1) (.con (D.int 0))) (.cons (.ix (.loc 5) (.con (D.int 0))) (.cons (.loc 10) .nil))))))))) (.ret (.con (D.bl false)) .nil) .nil (.asg 11 (.call 12 0 (.cons (.loc 0) (.cons (.loc 7) (.cons (.call 10 0 (.cons (.loc 1) (.cons (.loc 2) (.cons (.loc 9) (.cons (.loc 3) .nil))))) (.cons (.ix (.loc 5) (.con (D.int 0))) (.cons (.loc 4) .nil)))))) (.asg 7 (.bin .Add (.loc 7) (.ix (.loc 1) (.con (D.int 0)))) (.asg 12 (.mkL (.val (.loc 11))) (.ifS (.or (.cmp .IsNot (.meth "hear" [(0,22)] (.loc 6) (.cons (.loc 9) (.cons (.loc 12) .nil))) (.con D.non)) (.cmp .NotEq (.loc 12) (.loc 11))) (.ret (.con (D.bl false)) .nil) .nil (.expr (.clr (.loc 12)) (.ifS (.cmp .Eq (.loc 9) (.con (D.int 1))) (.asg 5 (.call 17 0 (.cons (.loc 2) (.cons (.loc 3) (.cons (.loc 5) (.cons (.loc 11) .nil))))) .nil) (.asg 5 (.call 9 0 (.cons (.loc 1) (.cons (.loc 2) (.cons (.loc 9) (.cons (.loc 5) (.cons (.loc 11) .nil)))))) .nil) (.expr (.mt .append (.loc 8) (.cons (.ix (.loc 5) (.con (D.int 0))) .nil)) (.ifS (.nt (.tst (.call 16 0 (.cons (.loc 6) (.cons (.loc 8) .nil))))) (.ret (.con (D.bl false)) .nil) .nil .nil))))))))))) [some (.fix (ns.map .int)),some (.tup [.int m,.int b]),some (.int i),some (.int s),some (.int w0),some (.tup [oD h,.int k']),some (.ref 0),some (.int at'),some (.ref 2),some (.int (1+(j:Int))),v10,v11,v12] T) fun f S'=>match f with|.nx δ2=>LW ns m b i s w0 w (j+1) δ2 S'|.rt d=>False:=by
 generalize ht:1+(j:Int)=t at *
 have ht1:1<=t:=by omega
 refine asg_step la_w1 ?_
 simp only [List.set_cons_succ,List.set_cons_zero]
 refine asg_step (la_w2 hm) ?_
 simp only [List.set_cons_succ,List.set_cons_zero]
 have hy:=y_eq (s:=s) ht1 hi0 him
 unfold yZ at hy
 rw [hy]
 refine if_step ?_ ?_
 · refine W.eq (wT_W _ ?_)
   conv=>whnf
   refine wOpt_of (atI_0) ?_
   conv=>whnf
   refine wOpt_of (atI_0) ?_
   conv=>whnf
   refine wOut_of (s_says (n:=5) (t:=t) g0 hm hm7) ?_
   conv=>whnf
   exact ⟨rfl,rfl⟩
 obtain ⟨Ls,eL,hLl,hLw⟩:=s_letters (n:=6) (S:=T.push (.lst ((wlZ m i s t).map .int))) (q:=T.len) (ns:=ns) (at':=at') (w:=w0) (h:=h) (push_get _ _) (wl_len hm hm7) h6
 refine asg_step (d:=.ref (T.push (.lst ((wlZ m i s t).map .int))).len) (S':=(T.push (.lst ((wlZ m i s t).map .int))).push (.lst (Ls.map ltD))) ?_ ?_
 · refine W.eq (wE_W _ ?_)
   conv=>whnf
   refine wOut_of (s_writers (n:=8) hm hm7) ?_
   conv=>whnf
   refine wOpt_of (atI_0) ?_
   conv=>whnf
   refine wOut_of (eL) ?_
   conv=>whnf
   exact ⟨rfl,rfl⟩
 simp only [List.set_cons_succ,List.set_cons_zero]
 have hL10:Ls.length<=10:=by have:=wl_len (i:=i) (s:=s) (t:=t) hm hm7;omega
 generalize hT1:T.push (.lst ((wlZ m i s t).map .int))=T1
 have v1:Mv [0,1] T T1:=hT1▸Mv.push _ _ _
 refine asg_step (d:=.int (at'+m)) (S':=T1.push (.lst (Ls.map ltD))) ?_ ?_
 · refine W.eq (wE_W _ ?_)
   conv=>whnf
   refine wOpt_of (atI_0) ?_
   conv=>whnf
   exact ⟨rfl,rfl⟩
 simp only [List.set_cons_succ,List.set_cons_zero]
 refine asg_step (d:=.ref (T1.push (.lst (Ls.map ltD))).len) (S':=(T1.push (.lst (Ls.map ltD))).push (.lst (Ls.map ltD))) ?_ ?_
 · refine W.eq (wE_W _ ?_)
   conv=>whnf
   refine wOpt_of (push_get _ _) ?_
   conv=>whnf
   refine wNeed_of (by rw [List.length_map];omega) ?_
   conv=>whnf
   exact ⟨rfl,rfl⟩
 simp only [List.set_cons_succ,List.set_cons_zero]
 have len2:2<T.len:=get_lt g2
 have len1:T1.len=T.len+1:=by rw [<-hT1,plen]
 have v2:Mv [0,1] T ((T1.push (.lst (Ls.map ltD))).push (.lst (Ls.map ltD))):=(v1.trans (Mv.push _ _ _)).trans (Mv.push _ _ _)
 have p0:((T1.push (.lst (Ls.map ltD))).push (.lst (Ls.map ltD))).get 0=some (hD m b i s w h k 1):=push_old (push_old (hT1▸push_old g0))
 have p1:((T1.push (.lst (Ls.map ltD))).push (.lst (Ls.map ltD))).get 1=some (.lst (ws.map oD)):=push_old (push_old (hT1▸push_old g1))
 have p2:((T1.push (.lst (Ls.map ltD))).push (.lst (Ls.map ltD))).get 2=some (.lst (ws.map oD)):=push_old (push_old (hT1▸push_old g2))
 have pq:((T1.push (.lst (Ls.map ltD))).push (.lst (Ls.map ltD))).get T1.len=some (.lst (Ls.map ltD)):=push_old (push_get _ _)
 have pr:((T1.push (.lst (Ls.map ltD))).push (.lst (Ls.map ltD))).get (T1.push (.lst (Ls.map ltD))).len=some (.lst (Ls.map ltD)):=push_get _ _
 have hr:(T1.push (.lst (Ls.map ltD))).len=T1.len+1:=plen _ _
 rw [hr] at pr⊢
 generalize hT2:(T1.push (.lst (Ls.map ltD))).push (.lst (Ls.map ltD))=T2 at *
 generalize hq:T1.len=q at *
 have fr:∀a,Fr T2 a:=fun a=>⟨by rw [v2.frz,f0];exact Nat.zero_le _,by rw [v2.lk,k0];rfl⟩
 obtain ⟨ag1,ag2⟩:=agree (b:=b) (k:=k) (k':=k') (h:=h) ht1 hb hk hLl hLw
 refine if_stepW (wT_W _ ?_)
 conv=>whnf
 refine wOpt_of (insOf_of p0) ?_
 conv=>whnf
 refine wOpt_of (rfl) ?_
 conv=>whnf
 refine wNeed_of rfl ?_
 conv=>whnf
 refine wOut_W ((m_hear (n:=2) (t:=t) p0 (fr 0) pr p1 (fr 1) (by decide) (by omega) hL10 hb hm).mono fun d T3 hT3=>?_)
 obtain ⟨rfl,v3,a3,l3⟩:=hT3
 generalize hH:hrZ m b i s t h k Ls=H at *
 obtain ⟨h',k1⟩:=H
 dsimp only at a3 l3 ag1 ag2
 have nq:q∉[0,1]:=by simp only [List.mem_cons,List.not_mem_nil,or_false,not_or];omega
 have nr:q+1∉[0,1]:=by simp only [List.mem_cons,List.not_mem_nil,or_false,not_or];omega
 have eq3:=v3.old _ _ nq pq
 have er3:=v3.old _ _ nr pr
 have e23:=v3.old 2 _ (by decide) p2
 conv=>whnf
 refine wOpt_of (cmp_ne_same er3 eq3 (pd_lt _ 57 Ls)) ?_
 conv=>whnf
 refine ⟨rfl,?_⟩
 obtain ⟨U,h1,h2,h3,h4,h5,h6'⟩:=put_some (S:=T3) (l:=q+1) (.lst []) (by rw [v3.frz,v2.frz,f0];exact Nat.zero_le _) (by rw [v3.lk,v2.lk,k0];rfl)
 refine exp_step (d:=.non) (S':=U) ?_ ?_
 · refine W.eq (wE_W _ ?_)
   conv=>whnf
   refine wOpt_of (er3) ?_
   conv=>whnf
   refine wNeed_of (by first|decide|omega|(simp;done)|(simp;omega)) ?_
   conv=>whnf
   refine wOpt_of (h1) ?_
   conv=>whnf
   exact ⟨rfl,rfl⟩
 have b0:U.get 0=some (hD m b i s w h' k1 1):=(h5 0 (by omega)).trans a3
 have b1:U.get 1=some (.lst ((ws++[h']).map oD)):=(h5 1 (by omega)).trans l3
 have b2:U.get 2=some (.lst (ws.map oD)):=(h5 2 (by omega)).trans e23
 have bq:U.get q=some (.lst (Ls.map ltD)):=(h5 q (by omega)).trans eq3
 have hfl:flat U.len (.tup [oD h,.int k'])=true:=by cases h<;>rfl
 refine if2_step (k:=decide (t=1)) (d:=.tup [oD (wasZ m b i s t h k' Ls).1,.int (wasZ m b i s t h k' Ls).2]) (S':=U) ?_ ?_ ?_
 · refine W.eq (wT_W _ ?_)
   conv=>whnf
   exact ⟨rfl,rfl⟩
 · unfold wasZ
   by_cases c:t=1
   · rw [if_pos c,if_pos (decide_eq_true c)]
     refine W.eq (wE_W _ ?_)
     conv=>whnf
     refine wOut_of (s_first (n:=8) (i:=i) (s:=s) hfl bq) ?_
     conv=>whnf
     refine ⟨?_,rfl⟩
     split<;>rfl
   · rw [if_neg c,if_neg (by simpa using c)]
     refine W.eq (wE_W _ ?_)
     conv=>whnf
     refine wOut_of (s_stepL (n:=7) (m:=m) (b:=b) (i:=i) (t:=t) (k:=k') (h:=h) bq hL10 hm hb) ?_
     conv=>whnf
     exact ⟨rfl,rfl⟩
 simp only [List.set_cons_succ,List.set_cons_zero]
 obtain ⟨V,r1,r2,r3,r4,r5,r6⟩:=put_some (S:=U) (l:=2) (.lst ((ws++[h']).map oD)) (by rw [h2,v3.frz,v2.frz,f0];exact Nat.zero_le _) (by rw [h3,v3.lk,v2.lk,k0];rfl)
 have hx:ws.map oD++[oD h']=(ws++[h']).map oD:=by simp
 refine exp_step (d:=.non) (S':=V) ?_ ?_
 · refine W.eq (wE_W _ ?_)
   conv=>whnf
   refine wOpt_of (b2) ?_
   conv=>whnf
   refine wOpt_of (atI_0) ?_
   conv=>whnf
   refine wOpt_of (b2) ?_
   conv=>whnf
   rw [ag1]
   refine wNeed_of (by simp only [List.length_append,List.length_map,List.length_cons,List.length_nil];omega) ?_
   conv=>whnf
   refine wOpt_of (by rw [hx];exact r1) ?_
   exact ⟨rfl,rfl⟩
 have d0:V.get 0=some (hD m b i s w h' k1 1):=(r5 0 (by omega)).trans b0
 have d1:V.get 1=some (.lst ((ws++[h']).map oD)):=(r5 1 (by omega)).trans b1
 have d2:V.get 2=some (.lst ((ws++[h']).map oD)):=r6 (get_lt b2)
 refine if_step ?_ ?_
 · refine W.eq (wT_W _ ?_)
   conv=>whnf
   refine wOut_of (s_storied (n:=7) d0 d1 d2 (by simp;omega)) ?_
   conv=>whnf
   exact ⟨rfl,rfl⟩
 rw [exS]
 refine ⟨h',k1,(wasZ m b i s t h k' Ls).2,at'+m,ws++[h'],some (.int t),some (.bl (decide (i∈wrZ m s t))),some (.ref q),some (.ref (q+1)),by rw [r2,h2,v3.frz,v2.frz,f0],by rw [r3,h3,v3.lk,v2.lk,k0],d0,d1,d2,by simp [hj],fun _=>⟨ws,rfl⟩,fun z _=>ag2 (by omega),by omega,?_⟩
 rw [ag1]
theorem call_X {P:List Fn} {F:Fn} {f n:Nat} {ds:List D} {S:R.St} {Q:D->R.St->Prop} (h:P[f]?=some F) (hl:ds.length=F.np) (hp:F.prim=none) (w:W (exS (callF P n) F.body (startE F ds) S) fun r T=>match r with|.nx _=>Q .non T|.rt d=>Q d T):W (callF P (n+1) f ds S) Q:=by
 simp only [callF,h,hl,hp,if_true,W_bind]
 refine w.mono fun r T q=>?_
 cases r<;>exact q
theorem if1_step {cf:CF} {c e1:CE} {i:Nat} {k:Bool} {r:CS} {δ:Ev} {S:R.St} {d:D} {Q:Fl->R.St->Prop} (e:evT cf c δ S=.ok k S) (h:evE cf e1 δ S=.ok d S) (w:W (exS cf r (if k then δ.set i (some d) else δ) S) Q):W (exS cf (.ifS c (.asg i e1 .nil) .nil r) δ S) Q:=by
 rw [exS,e,bind_ok]
 cases k with
 | true =>
   simp only [exS,if_true,h,bind_ok]
   exact w
 | false =>
   simp only [exS,Bool.false_eq_true,if_false,bind_ok]
   exact w
noncomputable def tailS:CS:=(.ifS (.cmp .Eq (.loc 2) (.loc 3)) (.expr (.mt .append (.loc 8) (.cons (.loc 4) .nil)) .nil) .nil (.ret (.and (.call 15 0 (.cons (.loc 6) (.cons (.loc 2) (.cons (.loc 1) .nil)))) (.call 7 0 (.cons (.meth "ending" [(0,21)] (.loc 6) .nil) (.cons (.ix (.loc 8) (.neg (.con (D.int 1)))) .nil)))) .nil))
theorem law_tail {ns:List Int} {m b i s w0:Int} {w:Option Int} {j:Nat} {δ:Ev} {T:R.St} (hw:w=if i=s then some w0 else none) (hb:0<=b) (hb5:b<=5) (hj:0<j) (hj30:j<=30) (hL:LW ns m b i s w0 w j δ T):wS (callF prog 9) tailS δ T fun r T=>match r with|.nx _=>D.non=.bl true|.rt d=>d=.bl true:=by
 obtain ⟨h,k,k',at',ws,v9,v10,v11,v12,f0,k0,g0,g1,g2,hjl,hlast,_,_,rfl⟩:=hL
 obtain ⟨us,hus⟩:=hlast hj
 conv=>whnf
 refine wIf_p (fun c=>?_) (fun c=>?_)
 · have hw':w=some w0:=by rw [hw,if_pos c]
   obtain ⟨V,r1,r2,r3,r4,r5,r6⟩:=put_some (S:=T) (l:=2) (.lst (ws.map oD++[.int w0])) (by rw [f0];exact Nat.zero_le _) (by rw [k0];rfl)
   have d0:V.get 0=some (hD m b i s w h k 1):=(r5 0 (by decide)).trans g0
   have d2:V.get 2=some (.lst (ws.map oD++[.int w0])):=r6 (get_lt g2)
   conv=>whnf
   refine wOpt_of (g2) ?_
   conv=>whnf
   refine wOpt_of (g2) ?_
   conv=>whnf
   refine wNeed_of (by simp only [List.length_append,List.length_map,List.length_cons,List.length_nil];omega) ?_
   conv=>whnf
   refine wOpt_of (r1) ?_
   conv=>whnf
   refine wOut_of (s_hand (n:=8) d0 hb hb5) ?_
   conv=>whnf
   refine wOpt_of (insOf_of d0) ?_
   conv=>whnf
   refine wOpt_of (rfl) ?_
   conv=>whnf
   refine wNeed_of rfl ?_
   conv=>whnf
   refine wOut_of (m_ending (n:=8) d0) ?_
   conv=>whnf
   refine wOpt_of (d2) ?_
   conv=>whnf
   refine wOpt_of (atI_last _ _) ?_
   conv=>whnf
   rw [if_pos c,hw']
   refine wOut_of (s_like (n:=8) (o:=some w0)) ?_
   conv=>whnf
 · conv=>whnf
   refine wOut_of (s_hand (n:=8) g0 hb hb5) ?_
   conv=>whnf
   refine wOpt_of (insOf_of g0) ?_
   conv=>whnf
   refine wOpt_of (rfl) ?_
   conv=>whnf
   refine wNeed_of rfl ?_
   conv=>whnf
   refine wOut_of (m_ending (n:=8) g0) ?_
   conv=>whnf
   refine wOpt_of (g2) ?_
   conv=>whnf
   rw [hus,List.map_append,List.map_cons,List.map_nil]
   refine wOpt_of (atI_last _ _) ?_
   conv=>whnf
   rw [if_neg c]
   refine wOut_of (s_like (n:=8) (o:=h)) ?_
   conv=>whnf
theorem law_true (ns:List Int) (h:ns.length<=63):W (callF prog 10 18 [.fix (ns.map .int)] ⟨[],[],[]⟩) fun d _=>d=.bl true:=by
 refine call_X (F:=c_law) rfl rfl rfl ?_
 have hm0:0<1+cellZ ns 0 % 7:=by have:=Int.emod_nonneg (cellZ ns 0) (by decide:(7:Int)≠0);omega
 have hm7:1+cellZ ns 0 % 7<=7:=by have:=Int.emod_lt_of_pos (cellZ ns 0) (by decide:(0:Int)<7);omega
 have hb0:0<=cellZ ns 1 % 6:=Int.emod_nonneg _ (by decide)
 have hb5:cellZ ns 1 % 6<=5:=by have:=Int.emod_lt_of_pos (cellZ ns 1) (by decide:(0:Int)<6);omega
 have hi0:0<=cellZ ns 2 % (1+cellZ ns 0 % 7):=Int.emod_nonneg _ (by omega)
 have him:cellZ ns 2 % (1+cellZ ns 0 % 7)<1+cellZ ns 0 % 7:=Int.emod_lt_of_pos _ hm0
 show W (exS (callF prog 9) (.asg 1 _ (.asg 2 _ (.asg 3 _ (.asg 4 _ (.asg 5 _ _))))) [some (.fix (ns.map .int)),none,none,none,none,none,none,none,none,none,none,none,none] ⟨[],[],[]⟩) _
 refine asg_step (d:=.tup [.int (1+cellZ ns 0 % 7),.int (cellZ ns 1 % 6)]) (S':=⟨[],[],[]⟩) (W.eq (wE_W _ ?_)) ?_
 · conv=>whnf
   refine wOut_of (s_cell (n:=8) (k:=0)) ?_
   conv=>whnf
   refine wNeed_of (by first|decide|omega|(simp;done)|(simp;omega)) ?_
   conv=>whnf
   refine wOut_of (s_cell (n:=8) (k:=1)) ?_
   conv=>whnf
   refine wNeed_of (by first|decide|omega|(simp;done)|(simp;omega)) ?_
   conv=>whnf
   refine wNeed_of (by first|decide|omega|(simp;done)|(simp;omega)) ?_
   conv=>whnf
   exact ⟨rfl,rfl⟩
 simp only [List.set_cons_succ,List.set_cons_zero]
 generalize hm:1+cellZ ns 0 % 7=m at *
 generalize hb:cellZ ns 1 % 6=b at *
 refine asg_step (d:=.int (cellZ ns 2 % m)) (S':=⟨[],[],[]⟩) (W.eq (wE_W _ ?_)) ?_
 · conv=>whnf
   refine wOut_of (s_cell (n:=8) (k:=2)) ?_
   conv=>whnf
   refine wOpt_of (atI_0) ?_
   conv=>whnf
   refine wNeed_of hm0 ?_
   conv=>whnf
   exact ⟨rfl,rfl⟩
 simp only [List.set_cons_succ,List.set_cons_zero]
 generalize hi:cellZ ns 2 % m=i at *
 refine asg_step (d:=.int (cellZ ns 3 % m)) (S':=⟨[],[],[]⟩) (W.eq (wE_W _ ?_)) ?_
 · conv=>whnf
   refine wOut_of (s_cell (n:=8) (k:=3)) ?_
   conv=>whnf
   refine wOpt_of (atI_0) ?_
   conv=>whnf
   refine wNeed_of hm0 ?_
   conv=>whnf
   exact ⟨rfl,rfl⟩
 simp only [List.set_cons_succ,List.set_cons_zero]
 generalize hs:cellZ ns 3 % m=s at *
 refine asg_step (d:=.int (cellZ ns 4 % (2 * 10 ^ 60 - 1) - (10 ^ 60 - 1))) (S':=⟨[],[],[]⟩) (W.eq (wE_W _ ?_)) ?_
 · conv=>whnf
   refine wOut_of (s_cell (n:=8) (k:=4)) ?_
   conv=>whnf
   repeat (first|(refine wNeed_of (by first|decide|omega|(simp;done)|(simp;omega)) ?_;conv=>whnf)|(refine wGet_new rfl ?_;conv=>whnf)|(refine wPut_new rfl ?_;conv=>whnf)|(refine wGet_old (by assumption) ?_;conv=>whnf))
   exact ⟨rfl,rfl⟩
 simp only [List.set_cons_succ,List.set_cons_zero]
 generalize hw0:cellZ ns 4 % (2 * 10 ^ 60 - 1) - (10 ^ 60 - 1)=w0 at *
 refine asg_step (d:=.tup [.non,.int 0]) (S':=⟨[],[],[]⟩) (W.eq (wE_W _ ?_)) ?_
 · conv=>whnf
   refine wNeed_of (by first|decide|omega|(simp;done)|(simp;omega)) ?_
   conv=>whnf
   exact ⟨rfl,rfl⟩
 simp only [List.set_cons_succ,List.set_cons_zero]
 refine if1_step (k:=decide (i=s)) (d:=.tup [.int w0,.int 0]) (W.eq (wT_W _ ?_)) (W.eq (wE_W _ ?_)) ?_
 · conv=>whnf
   exact ⟨rfl,rfl⟩
 · conv=>whnf
   refine wNeed_of (by first|decide|omega|(simp;done)|(simp;omega)) ?_
   conv=>whnf
   exact ⟨rfl,rfl⟩
 simp only [List.set_cons_succ,List.set_cons_zero]
 obtain ⟨w,hw⟩:∃w:Option Int,w=if i=s then some w0 else none:=⟨_,rfl⟩
 rw [show (if decide (i=s)=true then [some (D.fix (ns.map .int)),some (.tup [.int m,.int b]),some (.int i),some (.int s),some (.int w0),some (.tup [.int w0,.int 0]),none,none,none,none,none,none,none] else [some (D.fix (ns.map .int)),some (.tup [.int m,.int b]),some (.int i),some (.int s),some (.int w0),some (.tup [.non,.int 0]),none,none,none,none,none,none,none])=[some (D.fix (ns.map .int)),some (.tup [.int m,.int b]),some (.int i),some (.int s),some (.int w0),some (.tup [oD w,.int 0]),none,none,none,none,none,none,none] from by
  rw [hw]
  by_cases c:i=s
  · simp [c,oD]
  · simp [c,oD]]
 refine asg_step (d:=.ref 0) (S':=⟨[],[hD m b i s w w 0 1,.lst []],[]⟩) (W.eq (wE_W _ ?_)) ?_
 · conv=>whnf
   refine wOpt_of (atI_0) ?_
   conv=>whnf
   refine wOpt_of (atI_1) ?_
   conv=>whnf
   refine wOpt_of (atI_0) ?_
   conv=>whnf
   refine wOut_of (m_init (n:=7) hb0 hb5) ?_
   conv=>whnf
   refine wNeed_of rfl ?_
   conv=>whnf
   exact ⟨rfl,rfl⟩
 simp only [List.set_cons_succ,List.set_cons_zero]
 refine asg_step (d:=.int 6) (S':=⟨[],[hD m b i s w w 0 1,.lst []],[]⟩) rfl ?_
 simp only [List.set_cons_succ,List.set_cons_zero]
 refine asg_step (d:=.ref 2) (S':=⟨[],[hD m b i s w w 0 1,.lst [],.lst []],[]⟩) rfl ?_
 simp only [List.set_cons_succ,List.set_cons_zero]
 refine wS_W _ ?_
 conv=>whnf
 refine wOpt_of (atI_1) ?_
 conv=>whnf
 refine wNeed_of (by simp [mulOk]) ?_
 conv=>whnf
 refine wNeed_of (by omega) ?_
 conv=>whnf
 refine wLock_of ?_
 have hN:(2+3 * (b+1) - 1).toNat<=30:=by omega
 have hN0:0<(2+3 * (b+1) - 1).toNat:=by omega
 refine W.mono (turnsF_inv (fun j δ T=>LW ns m b i s w0 w j δ T) (fun _ _=>False) _ 0 _ _ ⟨w,0,0,6,[],none,none,none,none,rfl,rfl,rfl,rfl,rfl,rfl,fun z=>absurd z (by decide),fun _ _=>rfl,by decide,rfl⟩ ?_) ?_
 · rintro j z δ T hz hL
   rw [Nat.zero_add] at hL⊢
   obtain ⟨h',k,k',at',ws,v9,v10,v11,v12,f0,k0,g0,g1,g2,hjl,hlast,hk,h6,rfl⟩:=hL
   have hjN:j<(2+3 * (b+1) - 1).toNat:=by
    have:=(List.getElem?_eq_some_iff.mp hz).1
    simpa using this
   have hz':z=.int (1+(j:Int)):=by
    have:=(List.getElem?_eq_some_iff.mp hz).2
    rw [<-this];simp
   subst hz'
   exact ⟨_,rfl,law_turn hm0 hm7 hb0 hb5 hi0 him f0 k0 g0 g1 g2 hjl (by omega) hk h6⟩
 · intro f T hf
   cases f with
   |rt d=>exact hf.elim
   | nx δ =>
     have hf:LW ns m b i s w0 w (0+_) δ T:=hf
     rw [Nat.zero_add,List.length_map,List.length_range] at hf
     have hlk:T.lk=[]:=by obtain ⟨_,_,_,_,_,_,_,_,_,_,z,_⟩:=hf;exact z
     have hT:({T with lk:=[]}:R.St)=T:=by cases T;simp at hlk;simp [hlk]
     have fin:=law_tail hw hb0 hb5 hN0 hN hf
     rw [<-hT] at fin
     exact fin
end
section
open PySem R L2
set_option maxHeartbeats 0 in
theorem all_mk {l:PySem.W.OpenLaw} {w:World} {K:PySem.W.Frag} {h:Heap} {mg:Str->Option Value} {fa f1 f2 f3 f4 f5 f6 f7 f8 f9 f10 f11 f12 f13 f14 f15 f16 f17 f18 f19 fm20 fm21 fm22 fm23 fm24 fm25 fm26 fm27 fm28 fm29 fm30 fm31 hC_Hand iC_Hand:Addr} (X:K.In h) (G:h.Ns mainGlobals mg) (hfa:mg "law"=some (.ref fa))
  {odm20 anm20 odm21 anm21 odm22 anm22 odm23 anm23 odm24 anm24 odm25 anm25 odm26 anm26 odm27 anm27 odm28 anm28 odm29 anm29 odm30 anm30 odm31 anm31:Option Addr} {slm20 slm21 slm22 slm23 slm24 slm25 slm26 slm27 slm28 slm29 slm30 slm31:Array (Option Value)} {ocm20 kVm20 dcm20 pmm20 cdm20 ctm20 ocm21 kVm21 dcm21 pmm21 cdm21 ctm21 ocm22 kVm22 dcm22 pmm22 cdm22 ctm22 ocm23 kVm23 dcm23 pmm23 cdm23 ctm23 ocm24 kVm24 dcm24 pmm24 cdm24 ctm24 ocm25 kVm25 dcm25 pmm25 cdm25 ctm25 ocm26 kVm26 dcm26 pmm26 cdm26 ctm26 ocm27 kVm27 dcm27 pmm27 cdm27 ctm27 ocm28 kVm28 dcm28 pmm28 cdm28 ctm28 ocm29 kVm29 dcm29 pmm29 cdm29 ctm29 ocm30 kVm30 dcm30 pmm30 cdm30 ctm30 ocm31 kVm31 dcm31 pmm31 cdm31 ctm31:Value}
  {od1 an1 od2 an2 od3 an3 od4 an4 od5 an5 od6 an6 od7 an7 od8 an8 od9 an9 od10 an10 od11 an11 od12 an12 od13 an13 od14 an14 od15 an15 od16 an16 od17 an17 od18 an18 od19 an19:Option Addr} {sl1 sl2 sl3 sl4 sl5 sl6 sl7 sl8 sl9 sl10 sl11 sl12 sl13 sl14 sl15 sl16 sl17 sl18 sl19:Array (Option Value)} {oc1 kV1 dc1 pm1 cd1 ct1 oc2 kV2 dc2 pm2 ct2 oc3 kV3 dc3 pm3 cd3 ct3 oc4 kV4 dc4 pm4 cd4 ct4 oc5 kV5 dc5 pm5 cd5 ct5 oc6 kV6 dc6 pm6 cd6 ct6 oc7 kV7 dc7 pm7 cd7 ct7 oc8 kV8 dc8 pm8 cd8 ct8 oc9 kV9 dc9 pm9 cd9 ct9 oc10 kV10 dc10 pm10 cd10 ct10 oc11 kV11 dc11 pm11 cd11 ct11 oc12 kV12 dc12 pm12 cd12 ct12 oc13 kV13 dc13 pm13 cd13 ct13 oc14 kV14 dc14 pm14 cd14 ct14 oc15 kV15 dc15 pm15 cd15 ct15 oc16 kV16 dc16 pm16 cd16 ct16 oc17 kV17 dc17 pm17 cd17 ct17 oc18 kV18 dc18 pm18 cd18 ct18 oc19 kV19 dc19 pm19 cd19 ct19:Value}
  (a1:PySem.W.nsIn K mainGlobals "times"=some (some (.ref f1))) (l1:K.lookup f1=some ⟨oc1,od1,.func (PySem.W.fnOf "times" "times" (defArgs py_times) (defBody py_times) (defScope py_times) .none kV1 dc1 pm1 an1 cd1 ct1),sl1⟩) (c1:PySem.W.codeIn K cd1 "times"=true) (k1:PySem.W.keepIn K (.ref f1)=true)
  {cc2:Addr} (a2:PySem.W.nsIn K mainGlobals "tally"=some (some (.ref f2))) (l2:K.lookup f2=some ⟨oc2,od2,.func (PySem.W.fnOf "tally" "tally" (defArgs py_tally) (defBody py_tally) (defScope py_tally) .none kV2 dc2 pm2 an2 (.ref cc2) ct2),sl2⟩) (c2:PySem.W.codeIn K (.ref cc2) "tally"=true) (k2:PySem.W.keepIn K (.ref f2)=true) (h2:PySem.W.codeHdIn K cc2 23=true)
  (a3:PySem.W.nsIn K mainGlobals "strong"=some (some (.ref f3))) (l3:K.lookup f3=some ⟨oc3,od3,.func (PySem.W.fnOf "strong" "strong" (defArgs py_strong) (defBody py_strong) (defScope py_strong) .none kV3 dc3 pm3 an3 cd3 ct3),sl3⟩) (c3:PySem.W.codeIn K cd3 "strong"=true) (k3:PySem.W.keepIn K (.ref f3)=true)
  (a4:PySem.W.nsIn K mainGlobals "rounds_for"=some (some (.ref f4))) (l4:K.lookup f4=some ⟨oc4,od4,.func (PySem.W.fnOf "rounds_for" "rounds_for" (defArgs py_rounds_for) (defBody py_rounds_for) (defScope py_rounds_for) .none kV4 dc4 pm4 an4 cd4 ct4),sl4⟩) (c4:PySem.W.codeIn K cd4 "rounds_for"=true) (k4:PySem.W.keepIn K (.ref f4)=true)
  (a5:PySem.W.nsIn K mainGlobals "step_of"=some (some (.ref f5))) (l5:K.lookup f5=some ⟨oc5,od5,.func (PySem.W.fnOf "step_of" "step_of" (defArgs py_step_of) (defBody py_step_of) (defScope py_step_of) .none kV5 dc5 pm5 an5 cd5 ct5),sl5⟩) (c5:PySem.W.codeIn K cd5 "step_of"=true) (k5:PySem.W.keepIn K (.ref f5)=true)
  (a6:PySem.W.nsIn K mainGlobals "word_from"=some (some (.ref f6))) (l6:K.lookup f6=some ⟨oc6,od6,.func (PySem.W.fnOf "word_from" "word_from" (defArgs py_word_from) (defBody py_word_from) (defScope py_word_from) .none kV6 dc6 pm6 an6 cd6 ct6),sl6⟩) (c6:PySem.W.codeIn K cd6 "word_from"=true) (k6:PySem.W.keepIn K (.ref f6)=true)
  (a7:PySem.W.nsIn K mainGlobals "_law_cell_at"=some (some (.ref f7))) (l7:K.lookup f7=some ⟨oc7,od7,.func (PySem.W.fnOf "_law_cell_at" "_law_cell_at" (defArgs py_law_cell_at) (defBody py_law_cell_at) (defScope py_law_cell_at) .none kV7 dc7 pm7 an7 cd7 ct7),sl7⟩) (c7:PySem.W.codeIn K cd7 "_law_cell_at"=true) (k7:PySem.W.keepIn K (.ref f7)=true)
  (a8:PySem.W.nsIn K mainGlobals "_law_like"=some (some (.ref f8))) (l8:K.lookup f8=some ⟨oc8,od8,.func (PySem.W.fnOf "_law_like" "_law_like" (defArgs py_law_like) (defBody py_law_like) (defScope py_law_like) .none kV8 dc8 pm8 an8 cd8 ct8),sl8⟩) (c8:PySem.W.codeIn K cd8 "_law_like"=true) (k8:PySem.W.keepIn K (.ref f8)=true)
  (a9:PySem.W.nsIn K mainGlobals "_law_strong"=some (some (.ref f9))) (l9:K.lookup f9=some ⟨oc9,od9,.func (PySem.W.fnOf "_law_strong" "_law_strong" (defArgs py_law_strong) (defBody py_law_strong) (defScope py_law_strong) .none kV9 dc9 pm9 an9 cd9 ct9),sl9⟩) (c9:PySem.W.codeIn K cd9 "_law_strong"=true) (k9:PySem.W.keepIn K (.ref f9)=true)
  (a10:PySem.W.nsIn K mainGlobals "_law_step"=some (some (.ref f10))) (l10:K.lookup f10=some ⟨oc10,od10,.func (PySem.W.fnOf "_law_step" "_law_step" (defArgs py_law_step) (defBody py_law_step) (defScope py_law_step) .none kV10 dc10 pm10 an10 cd10 ct10),sl10⟩) (c10:PySem.W.codeIn K cd10 "_law_step"=true) (k10:PySem.W.keepIn K (.ref f10)=true)
  (a11:PySem.W.nsIn K mainGlobals "_law_writers"=some (some (.ref f11))) (l11:K.lookup f11=some ⟨oc11,od11,.func (PySem.W.fnOf "_law_writers" "_law_writers" (defArgs py_law_writers) (defBody py_law_writers) (defScope py_law_writers) .none kV11 dc11 pm11 an11 cd11 ct11),sl11⟩) (c11:PySem.W.codeIn K cd11 "_law_writers"=true) (k11:PySem.W.keepIn K (.ref f11)=true)
  (a12:PySem.W.nsIn K mainGlobals "_law_digit"=some (some (.ref f12))) (l12:K.lookup f12=some ⟨oc12,od12,.func (PySem.W.fnOf "_law_digit" "_law_digit" (defArgs py_law_digit) (defBody py_law_digit) (defScope py_law_digit) .none kV12 dc12 pm12 an12 cd12 ct12),sl12⟩) (c12:PySem.W.codeIn K cd12 "_law_digit"=true) (k12:PySem.W.keepIn K (.ref f12)=true)
  (a13:PySem.W.nsIn K mainGlobals "_law_letters"=some (some (.ref f13))) (l13:K.lookup f13=some ⟨oc13,od13,.func (PySem.W.fnOf "_law_letters" "_law_letters" (defArgs py_law_letters) (defBody py_law_letters) (defScope py_law_letters) .none kV13 dc13 pm13 an13 cd13 ct13),sl13⟩) (c13:PySem.W.codeIn K cd13 "_law_letters"=true) (k13:PySem.W.keepIn K (.ref f13)=true)
  (a14:PySem.W.nsIn K mainGlobals "_law_told"=some (some (.ref f14))) (l14:K.lookup f14=some ⟨oc14,od14,.func (PySem.W.fnOf "_law_told" "_law_told" (defArgs py_law_told) (defBody py_law_told) (defScope py_law_told) .none kV14 dc14 pm14 an14 cd14 ct14),sl14⟩) (c14:PySem.W.codeIn K cd14 "_law_told"=true) (k14:PySem.W.keepIn K (.ref f14)=true)
  (a15:PySem.W.nsIn K mainGlobals "_law_says"=some (some (.ref f15))) (l15:K.lookup f15=some ⟨oc15,od15,.func (PySem.W.fnOf "_law_says" "_law_says" (defArgs py_law_says) (defBody py_law_says) (defScope py_law_says) .none kV15 dc15 pm15 an15 cd15 ct15),sl15⟩) (c15:PySem.W.codeIn K cd15 "_law_says"=true) (k15:PySem.W.keepIn K (.ref f15)=true)
  (a16:PySem.W.nsIn K mainGlobals "_law_is_hand"=some (some (.ref f16))) (l16:K.lookup f16=some ⟨oc16,od16,.func (PySem.W.fnOf "_law_is_hand" "_law_is_hand" (defArgs py_law_is_hand) (defBody py_law_is_hand) (defScope py_law_is_hand) .none kV16 dc16 pm16 an16 cd16 ct16),sl16⟩) (c16:PySem.W.codeIn K cd16 "_law_is_hand"=true) (k16:PySem.W.keepIn K (.ref f16)=true)
  (a17:PySem.W.nsIn K mainGlobals "_law_storied"=some (some (.ref f17))) (l17:K.lookup f17=some ⟨oc17,od17,.func (PySem.W.fnOf "_law_storied" "_law_storied" (defArgs py_law_storied) (defBody py_law_storied) (defScope py_law_storied) .none kV17 dc17 pm17 an17 cd17 ct17),sl17⟩) (c17:PySem.W.codeIn K cd17 "_law_storied"=true) (k17:PySem.W.keepIn K (.ref f17)=true)
  (a18:PySem.W.nsIn K mainGlobals "_law_first"=some (some (.ref f18))) (l18:K.lookup f18=some ⟨oc18,od18,.func (PySem.W.fnOf "_law_first" "_law_first" (defArgs py_law_first) (defBody py_law_first) (defScope py_law_first) .none kV18 dc18 pm18 an18 cd18 ct18),sl18⟩) (c18:PySem.W.codeIn K cd18 "_law_first"=true) (k18:PySem.W.keepIn K (.ref f18)=true)
  (a19:PySem.W.nsIn K mainGlobals "law"=some (some (.ref f19))) (l19:K.lookup f19=some ⟨oc19,od19,.func (PySem.W.fnOf "law" "law" (defArgs py_law) (defBody py_law) (defScope py_law) .none kV19 dc19 pm19 an19 cd19 ct19),sl19⟩) (c19:PySem.W.codeIn K cd19 "law"=true) (k19:PySem.W.keepIn K (.ref f19)=true)
  (aC0:PySem.W.nsIn K mainGlobals "KingHand"=some (some (.ref 160)))
  (pg0:PySem.W.plainGet K 160 Str.empty=true)
  (hd0:PySem.W.hasDictIn K 160=true)
  (po0:PySem.W.plainOver K 160=true)
  (sa0:PySem.W.findIn K (.ref 160) "__setattr__"=some (some (.builtin "object.__setattr__")))
  (mkc0:PySem.W.makesIn K 160=true)
  (kc0:PySem.W.keepIn K (.ref 160)=true)
  (n0_number:PySem.W.findIn K (.ref 160) "number"=some none)
  (n0_many:PySem.W.findIn K (.ref 160) "many"=some none)
  (n0_rounds:PySem.W.findIn K (.ref 160) "rounds"=some none)
  (n0_bound:PySem.W.findIn K (.ref 160) "bound"=some none)
  (n0_sender:PySem.W.findIn K (.ref 160) "sender"=some none)
  (n0_word:PySem.W.findIn K (.ref 160) "word"=some none)
  (n0_held:PySem.W.findIn K (.ref 160) "held"=some none)
  (n0_backing:PySem.W.findIn K (.ref 160) "backing"=some none)
  (n0_holdings:PySem.W.findIn K (.ref 160) "holdings"=some none)
  (ja0:PySem.W.findIn K (.ref 160) "__class__"=some (some (.builtin "object.__class__")))
  (jm0:PySem.W.mroIn K 160 (.type "object")=some true)
  (x0_init:PySem.W.findIn K (.ref 160) "__init__"=some (some (.ref fm20)))
  (x0_all_words:PySem.W.findIn K (.ref 160) "all_words"=some (some (.ref fm21)))
  (x0_ending:PySem.W.findIn K (.ref 160) "ending"=some (some (.ref fm22)))
  (x0_hear:PySem.W.findIn K (.ref 160) "hear"=some (some (.ref fm23)))
  (x0_hear_backing:PySem.W.findIn K (.ref 160) "hear_backing"=some (some (.ref fm24)))
  (x0_hear_king:PySem.W.findIn K (.ref 160) "hear_king"=some (some (.ref fm25)))
  (x0_hear_sender:PySem.W.findIn K (.ref 160) "hear_sender"=some (some (.ref fm26)))
  (x0_king_of:PySem.W.findIn K (.ref 160) "king_of"=some (some (.ref fm27)))
  (x0_say:PySem.W.findIn K (.ref 160) "say"=some (some (.ref fm28)))
  (x0_story:PySem.W.findIn K (.ref 160) "story"=some (some (.ref fm29)))
  (x0_writers:PySem.W.findIn K (.ref 160) "writers"=some (some (.ref fm30)))
  (jn:PySem.W.specialIn K (.builtin "object.__class__") "__get__"=some (some (.builtin "getset_descriptor.__get__"))) (jt:PySem.W.takesIn K (.builtin "object.__class__")=some true)
  (aI_Hand:PySem.W.nsIn K mainGlobals "Hand"=some (some (.ref iC_Hand)))
  (kit0_Hand:PySem.W.kitOne K (.ref 160) (.ref iC_Hand)=some true)
  (ac_Hand:PySem.W.nsIn K mainGlobals "Hand"=some (some (.ref hC_Hand)))
  (gc_Hand:PySem.W.specialIn K (.ref hC_Hand) "__getattribute__"=some (some (.builtin "type.__getattribute__")))
  (rc_Hand:PySem.W.readsIn K hC_Hand (.type "type")=true)
  (fc_Hand:PySem.W.findCls K (.ref hC_Hand) (.type "type") "__init__"=some (.val (.ref fm31)))
  (lm20:K.lookup fm20=some ⟨ocm20,odm20,.func (PySem.W.fnOf "__init__" "KingHand.__init__" (defArgs py_KingHand_init) (defBody py_KingHand_init) (defScope py_KingHand_init) .none kVm20 dcm20 pmm20 anm20 cdm20 ctm20),slm20⟩) (cm20:PySem.W.codeIn K cdm20 "KingHand.__init__"=true) (km20:PySem.W.keepIn K (.ref fm20)=true) (im20:PySem.W.isFn K (.ref fm20)=true)
  (lm21:K.lookup fm21=some ⟨ocm21,odm21,.func (PySem.W.fnOf "all_words" "KingHand.all_words" (defArgs py_KingHand_all_words) (defBody py_KingHand_all_words) (defScope py_KingHand_all_words) .none kVm21 dcm21 pmm21 anm21 cdm21 ctm21),slm21⟩) (cm21:PySem.W.codeIn K cdm21 "KingHand.all_words"=true) (km21:PySem.W.keepIn K (.ref fm21)=true) (im21:PySem.W.isFn K (.ref fm21)=true)
  (lm22:K.lookup fm22=some ⟨ocm22,odm22,.func (PySem.W.fnOf "ending" "KingHand.ending" (defArgs py_KingHand_ending) (defBody py_KingHand_ending) (defScope py_KingHand_ending) .none kVm22 dcm22 pmm22 anm22 cdm22 ctm22),slm22⟩) (cm22:PySem.W.codeIn K cdm22 "KingHand.ending"=true) (km22:PySem.W.keepIn K (.ref fm22)=true) (im22:PySem.W.isFn K (.ref fm22)=true)
  (lm23:K.lookup fm23=some ⟨ocm23,odm23,.func (PySem.W.fnOf "hear" "KingHand.hear" (defArgs py_KingHand_hear) (defBody py_KingHand_hear) (defScope py_KingHand_hear) .none kVm23 dcm23 pmm23 anm23 cdm23 ctm23),slm23⟩) (cm23:PySem.W.codeIn K cdm23 "KingHand.hear"=true) (km23:PySem.W.keepIn K (.ref fm23)=true) (im23:PySem.W.isFn K (.ref fm23)=true)
  (lm24:K.lookup fm24=some ⟨ocm24,odm24,.func (PySem.W.fnOf "hear_backing" "KingHand.hear_backing" (defArgs py_KingHand_hear_backing) (defBody py_KingHand_hear_backing) (defScope py_KingHand_hear_backing) .none kVm24 dcm24 pmm24 anm24 cdm24 ctm24),slm24⟩) (cm24:PySem.W.codeIn K cdm24 "KingHand.hear_backing"=true) (km24:PySem.W.keepIn K (.ref fm24)=true) (im24:PySem.W.isFn K (.ref fm24)=true)
  (lm25:K.lookup fm25=some ⟨ocm25,odm25,.func (PySem.W.fnOf "hear_king" "KingHand.hear_king" (defArgs py_KingHand_hear_king) (defBody py_KingHand_hear_king) (defScope py_KingHand_hear_king) .none kVm25 dcm25 pmm25 anm25 cdm25 ctm25),slm25⟩) (cm25:PySem.W.codeIn K cdm25 "KingHand.hear_king"=true) (km25:PySem.W.keepIn K (.ref fm25)=true) (im25:PySem.W.isFn K (.ref fm25)=true)
  (lm26:K.lookup fm26=some ⟨ocm26,odm26,.func (PySem.W.fnOf "hear_sender" "KingHand.hear_sender" (defArgs py_KingHand_hear_sender) (defBody py_KingHand_hear_sender) (defScope py_KingHand_hear_sender) .none kVm26 dcm26 pmm26 anm26 cdm26 ctm26),slm26⟩) (cm26:PySem.W.codeIn K cdm26 "KingHand.hear_sender"=true) (km26:PySem.W.keepIn K (.ref fm26)=true) (im26:PySem.W.isFn K (.ref fm26)=true)
  (lm27:K.lookup fm27=some ⟨ocm27,odm27,.func (PySem.W.fnOf "king_of" "KingHand.king_of" (defArgs py_KingHand_king_of) (defBody py_KingHand_king_of) (defScope py_KingHand_king_of) .none kVm27 dcm27 pmm27 anm27 cdm27 ctm27),slm27⟩) (cm27:PySem.W.codeIn K cdm27 "KingHand.king_of"=true) (km27:PySem.W.keepIn K (.ref fm27)=true) (im27:PySem.W.isFn K (.ref fm27)=true)
  (lm28:K.lookup fm28=some ⟨ocm28,odm28,.func (PySem.W.fnOf "say" "KingHand.say" (defArgs py_KingHand_say) (defBody py_KingHand_say) (defScope py_KingHand_say) .none kVm28 dcm28 pmm28 anm28 cdm28 ctm28),slm28⟩) (cm28:PySem.W.codeIn K cdm28 "KingHand.say"=true) (km28:PySem.W.keepIn K (.ref fm28)=true) (im28:PySem.W.isFn K (.ref fm28)=true)
  (lm29:K.lookup fm29=some ⟨ocm29,odm29,.func (PySem.W.fnOf "story" "KingHand.story" (defArgs py_KingHand_story) (defBody py_KingHand_story) (defScope py_KingHand_story) .none kVm29 dcm29 pmm29 anm29 cdm29 ctm29),slm29⟩) (cm29:PySem.W.codeIn K cdm29 "KingHand.story"=true) (km29:PySem.W.keepIn K (.ref fm29)=true) (im29:PySem.W.isFn K (.ref fm29)=true)
  (lm30:K.lookup fm30=some ⟨ocm30,odm30,.func (PySem.W.fnOf "writers" "KingHand.writers" (defArgs py_KingHand_writers) (defBody py_KingHand_writers) (defScope py_KingHand_writers) .none kVm30 dcm30 pmm30 anm30 cdm30 ctm30),slm30⟩) (cm30:PySem.W.codeIn K cdm30 "KingHand.writers"=true) (km30:PySem.W.keepIn K (.ref fm30)=true) (im30:PySem.W.isFn K (.ref fm30)=true)
  (lm31:K.lookup fm31=some ⟨ocm31,odm31,.func (PySem.W.fnOf "__init__" "Hand.__init__" (defArgs py_Hand_init) (defBody py_Hand_init) (defScope py_Hand_init) .none kVm31 dcm31 pmm31 anm31 cdm31 ctm31),slm31⟩) (cm31:PySem.W.codeIn K cdm31 "Hand.__init__"=true) (km31:PySem.W.keepIn K (.ref fm31)=true) (im31:PySem.W.isFn K (.ref fm31)=true)
  (z_all:PySem.W.nsIn K mainGlobals "all"=some none)
  (z_bool:PySem.W.nsIn K mainGlobals "bool"=some none)
  (z_int:PySem.W.nsIn K mainGlobals "int"=some none)
  (z_isinstance:PySem.W.nsIn K mainGlobals "isinstance"=some none)
  (z_len:PySem.W.nsIn K mainGlobals "len"=some none)
  (z_list:PySem.W.nsIn K mainGlobals "list"=some none)
  (z_max:PySem.W.nsIn K mainGlobals "max"=some none)
  (z_range:PySem.W.nsIn K mainGlobals "range"=some none)
  (z_sorted:PySem.W.nsIn K mainGlobals "sorted"=some none)
  (z_tuple:PySem.W.nsIn K mainGlobals "tuple"=some none)
  (z_zip:PySem.W.nsIn K mainGlobals "zip"=some none)
  {t_STILL:Tok} (q_STILL:PySem.W.nsIn K mainGlobals "STILL"=some (some (.int 0 t_STILL)))
  : ∃fd:FuncData,(∀(s:Shared) (v:Value),BindsTo s fd ⟨[v],[]⟩ [("_law_script",v)])/\∀base:Heap,K.In base->base.Ns mainGlobals mg->BM mg base->FnOk l.prog w K mg base CX0 20 fa fd ["_law_script"] (spF K (callF prog 10) 18):=by
 have e:=hfa.symm.trans (PySem.W.mg_of X G a19)
 cases e
 have F1:=funV_mk (st:=py_times) l1 c1 k1
 have m1:=PySem.W.mg_of X G a1
 have b1_0:=F1.binds (ps:=["words","word"]) fun _ _ _ _ _ _ us hl=>match us,hl with | [_,_],_=>rfl
 have F2:=funV_mk (st:=py_tally) l2 c2 k2
 have m2:=PySem.W.mg_of X G a2
 have b2_0:=F2.binds (ps:=["words"]) fun _ _ _ _ _ _ us hl=>match us,hl with | [_],_=>rfl
 have F3:=funV_mk (st:=py_strong) l3 c3 k3
 have m3:=PySem.W.mg_of X G a3
 have b3_0:=F3.binds (ps:=["words","least"]) fun _ _ _ _ _ _ us hl=>match us,hl with | [_,_],_=>rfl
 have F4:=funV_mk (st:=py_rounds_for) l4 c4 k4
 have m4:=PySem.W.mg_of X G a4
 have b4_0:=F4.binds (ps:=["bound"]) fun _ _ _ _ _ _ us hl=>match us,hl with | [_],_=>rfl
 have F5:=funV_mk (st:=py_step_of) l5 c5 k5
 have m5:=PySem.W.mg_of X G a5
 have b5_0:=F5.binds (ps:=["turn"]) fun _ _ _ _ _ _ us hl=>match us,hl with | [_],_=>rfl
 have F6:=funV_mk (st:=py_word_from) l6 c6 k6
 have m6:=PySem.W.mg_of X G a6
 have b6_0:=F6.binds (ps:=["writer","letters"]) fun _ _ _ _ _ _ us hl=>match us,hl with | [_,_],_=>rfl
 have F7:=funV_mk (st:=py_law_cell_at) l7 c7 k7
 have m7:=PySem.W.mg_of X G a7
 have b7_0:=F7.binds (ps:=["_law_script","_law_k"]) fun _ _ _ _ _ _ us hl=>match us,hl with | [_,_],_=>rfl
 have F8:=funV_mk (st:=py_law_like) l8 c8 k8
 have m8:=PySem.W.mg_of X G a8
 have b8_0:=F8.binds (ps:=["_law_found","_law_due"]) fun _ _ _ _ _ _ us hl=>match us,hl with | [_,_],_=>rfl
 have F9:=funV_mk (st:=py_law_strong) l9 c9 k9
 have m9:=PySem.W.mg_of X G a9
 have b9_0:=F9.binds (ps:=["_law_words","_law_least"]) fun _ _ _ _ _ _ us hl=>match us,hl with | [_,_],_=>rfl
 have F10:=funV_mk (st:=py_law_step) l10 c10 k10
 have m10:=PySem.W.mg_of X G a10
 have b10_0:=F10.binds (ps:=["_law_sizes","_law_number","_law_turn","_law_was","_law_letters_here"]) fun _ _ _ _ _ _ us hl=>match us,hl with | [_,_,_,_,_],_=>rfl
 have F11:=funV_mk (st:=py_law_writers) l11 c11 k11
 have m11:=PySem.W.mg_of X G a11
 have b11_0:=F11.binds (ps:=["_law_sizes","_law_number","_law_turn","_law_sender"]) fun _ _ _ _ _ _ us hl=>match us,hl with | [_,_,_,_],_=>rfl
 have F12:=funV_mk (st:=py_law_digit) l12 c12 k12
 have m12:=PySem.W.mg_of X G a12
 have b12_0:=F12.binds (ps:=["_law_script","_law_at","_law_k"]) fun _ _ _ _ _ _ us hl=>match us,hl with | [_,_,_],_=>rfl
 have F13:=funV_mk (st:=py_law_letters) l13 c13 k13
 have m13:=PySem.W.mg_of X G a13
 have b13_0:=F13.binds (ps:=["_law_script","_law_at","_law_writers_here","_law_held","_law_word"]) fun _ _ _ _ _ _ us hl=>match us,hl with | [_,_,_,_,_],_=>rfl
 have F14:=funV_mk (st:=py_law_told) l14 c14 k14
 have m14:=PySem.W.mg_of X G a14
 have b14_0:=F14.binds (ps:=["_law_found","_law_number","_law_many","_law_held","_law_writes"]) fun _ _ _ _ _ _ us hl=>match us,hl with | [_,_,_,_,_],_=>rfl
 have F15:=funV_mk (st:=py_law_says) l15 c15 k15
 have m15:=PySem.W.mg_of X G a15
 have b15_0:=F15.binds (ps:=["_law_hand","_law_turn","_law_number","_law_many","_law_held","_law_writes"]) fun _ _ _ _ _ _ us hl=>match us,hl with | [_,_,_,_,_,_],_=>rfl
 have F16:=funV_mk (st:=py_law_is_hand) l16 c16 k16
 have m16:=PySem.W.mg_of X G a16
 have b16_0:=F16.binds (ps:=["_law_hand","_law_number","_law_sizes"]) fun _ _ _ _ _ _ us hl=>match us,hl with | [_,_,_],_=>rfl
 have F17:=funV_mk (st:=py_law_storied) l17 c17 k17
 have m17:=PySem.W.mg_of X G a17
 have b17_0:=F17.binds (ps:=["_law_hand","_law_due"]) fun _ _ _ _ _ _ us hl=>match us,hl with | [_,_],_=>rfl
 have F18:=funV_mk (st:=py_law_first) l18 c18 k18
 have m18:=PySem.W.mg_of X G a18
 have b18_0:=F18.binds (ps:=["_law_number","_law_sender","_law_was","_law_letters_here"]) fun _ _ _ _ _ _ us hl=>match us,hl with | [_,_,_,_],_=>rfl
 have F19:=funV_mk (st:=py_law) l19 c19 k19
 have m19:=PySem.W.mg_of X G a19
 have b19_0:=F19.binds (ps:=["_law_script"]) fun _ _ _ _ _ _ us hl=>match us,hl with | [_],_=>rfl
 have hb:∀x,tab.blt.contains x=true->mg x=none:=AllIn.get (l:=tab.blt) (And.intro (PySem.W.mg_none_of X G z_all) (And.intro (PySem.W.mg_none_of X G z_bool) (And.intro (PySem.W.mg_none_of X G z_int) (And.intro (PySem.W.mg_none_of X G z_isinstance) (And.intro (PySem.W.mg_none_of X G z_len) (And.intro (PySem.W.mg_none_of X G z_list) (And.intro (PySem.W.mg_none_of X G z_max) (And.intro (PySem.W.mg_none_of X G z_range) (And.intro (PySem.W.mg_none_of X G z_sorted) (And.intro (PySem.W.mg_none_of X G z_tuple) (And.intro (PySem.W.mg_none_of X G z_zip) trivial)))))))))))
 have hc:∀x d,tab.cons.lookup x=some d->scalD d=true/\∃u,mg x=some u/\RelV (sV d) u:=by
  intro x d hx
  have hm:=PySem.mem_of_lookup hx
  simp only [tab,List.mem_cons,List.not_mem_nil,or_false,Prod.mk.injEq] at hm
  rcases hm with ⟨rfl,rfl⟩
  · exact ⟨rfl,_,PySem.W.mg_of X G q_STILL,⟨_,rfl⟩⟩
 have hd:∀base:Heap,BM mg base->∀fi x ps nd,tab.fns[fi]?=some (x,ps,nd)->DefOk K mg tab prog fi x ps nd\/PrimOk l.prog w K mg base prog fi x ps nd:=fun base bm fi x ps nd hf=>AllAt.get (P:=fun fi q=>DefOk K mg tab prog fi q.1 q.2.1 q.2.2\/PrimOk l.prog w K mg base prog fi q.1 q.2.1 q.2.2) (l:=tab.fns)
  (And.intro (.inl ⟨⟨c_times,_,py_times,_,_,_,_,rfl,rfl,F1,sc_times,ck_times,rfl,rfl,m1,(fun j hj=>(Nat.le_zero.mp hj).symm▸b1_0)⟩⟩) (And.intro (.inr ⟨⟨c_tally,.tally,_,_,rfl,rfl,rfl,m2,k2,(fun j hj=>(Nat.le_zero.mp hj).symm▸b2_0),fun n hn=>tally_ok l2 c2 h2 ts_tally bm (by decide +kernel) (fun p hp _=>by simp only [Mks.ts,mks,List.mem_cons,List.not_mem_nil,or_false] at hp;subst hp;decide +kernel) (PySem.W.mg_none_of X G z_sorted) rfl rfl rfl hn⟩⟩) (And.intro (.inl ⟨⟨c_strong,_,py_strong,_,_,_,_,rfl,rfl,F3,sc_strong,ck_strong,rfl,rfl,m3,(fun j hj=>(Nat.le_zero.mp hj).symm▸b3_0)⟩⟩) (And.intro (.inl ⟨⟨c_rounds_for,_,py_rounds_for,_,_,_,_,rfl,rfl,F4,sc_rounds_for,ck_rounds_for,rfl,rfl,m4,(fun j hj=>(Nat.le_zero.mp hj).symm▸b4_0)⟩⟩) (And.intro (.inl ⟨⟨c_step_of,_,py_step_of,_,_,_,_,rfl,rfl,F5,sc_step_of,ck_step_of,rfl,rfl,m5,(fun j hj=>(Nat.le_zero.mp hj).symm▸b5_0)⟩⟩) (And.intro (.inl ⟨⟨c_word_from,_,py_word_from,_,_,_,_,rfl,rfl,F6,sc_word_from,ck_word_from,rfl,rfl,m6,(fun j hj=>(Nat.le_zero.mp hj).symm▸b6_0)⟩⟩) (And.intro (.inl ⟨⟨c_law_cell_at,_,py_law_cell_at,_,_,_,_,rfl,rfl,F7,sc_law_cell_at,ck_law_cell_at,rfl,rfl,m7,(fun j hj=>(Nat.le_zero.mp hj).symm▸b7_0)⟩⟩) (And.intro (.inl ⟨⟨c_law_like,_,py_law_like,_,_,_,_,rfl,rfl,F8,sc_law_like,ck_law_like,rfl,rfl,m8,(fun j hj=>(Nat.le_zero.mp hj).symm▸b8_0)⟩⟩) (And.intro (.inl ⟨⟨c_law_strong,_,py_law_strong,_,_,_,_,rfl,rfl,F9,sc_law_strong,ck_law_strong,rfl,rfl,m9,(fun j hj=>(Nat.le_zero.mp hj).symm▸b9_0)⟩⟩) (And.intro (.inl ⟨⟨c_law_step,_,py_law_step,_,_,_,_,rfl,rfl,F10,sc_law_step,ck_law_step,rfl,rfl,m10,(fun j hj=>(Nat.le_zero.mp hj).symm▸b10_0)⟩⟩) (And.intro (.inl ⟨⟨c_law_writers,_,py_law_writers,_,_,_,_,rfl,rfl,F11,sc_law_writers,ck_law_writers,rfl,rfl,m11,(fun j hj=>(Nat.le_zero.mp hj).symm▸b11_0)⟩⟩) (And.intro (.inl ⟨⟨c_law_digit,_,py_law_digit,_,_,_,_,rfl,rfl,F12,sc_law_digit,ck_law_digit,rfl,rfl,m12,(fun j hj=>(Nat.le_zero.mp hj).symm▸b12_0)⟩⟩) (And.intro (.inl ⟨⟨c_law_letters,_,py_law_letters,_,_,_,_,rfl,rfl,F13,sc_law_letters,ck_law_letters,rfl,rfl,m13,(fun j hj=>(Nat.le_zero.mp hj).symm▸b13_0)⟩⟩) (And.intro (.inl ⟨⟨c_law_told,_,py_law_told,_,_,_,_,rfl,rfl,F14,sc_law_told,ck_law_told,rfl,rfl,m14,(fun j hj=>(Nat.le_zero.mp hj).symm▸b14_0)⟩⟩) (And.intro (.inl ⟨⟨c_law_says,_,py_law_says,_,_,_,_,rfl,rfl,F15,sc_law_says,ck_law_says,rfl,rfl,m15,(fun j hj=>(Nat.le_zero.mp hj).symm▸b15_0)⟩⟩) (And.intro (.inl ⟨⟨c_law_is_hand,_,py_law_is_hand,_,_,_,_,rfl,rfl,F16,sc_law_is_hand,ck_law_is_hand,rfl,rfl,m16,(fun j hj=>(Nat.le_zero.mp hj).symm▸b16_0)⟩⟩) (And.intro (.inl ⟨⟨c_law_storied,_,py_law_storied,_,_,_,_,rfl,rfl,F17,sc_law_storied,ck_law_storied,rfl,rfl,m17,(fun j hj=>(Nat.le_zero.mp hj).symm▸b17_0)⟩⟩) (And.intro (.inl ⟨⟨c_law_first,_,py_law_first,_,_,_,_,rfl,rfl,F18,sc_law_first,ck_law_first,rfl,rfl,m18,(fun j hj=>(Nat.le_zero.mp hj).symm▸b18_0)⟩⟩) (And.intro (.inl ⟨⟨c_law,_,py_law,_,_,_,_,rfl,rfl,F19,sc_law,ck_law,rfl,rfl,m19,(fun j hj=>(Nat.le_zero.mp hj).symm▸b19_0)⟩⟩) trivial))))))))))))))))))) fi _ hf
 refine ⟨PySem.W.fnOf "law" "law" (defArgs py_law) (defBody py_law) (defScope py_law) .none kV19 dc19 pm19 an19 cd19 ct19,fun s v=>.of_eq rfl,fun base _ _ bm=>?_⟩
 have Fm20:=funV_mk (st:=py_KingHand_init) lm20 cm20 km20
 have bm20:=Fm20.binds (ps:=["self","number","many","bound","sender","word"]) fun _ _ _ _ _ _ us hl=>match us,hl with | [_,_,_,_,_,_],_=>rfl
 have Fm21:=funV_mk (st:=py_KingHand_all_words) lm21 cm21 km21
 have bm21:=Fm21.binds (ps:=["self","letters"]) fun _ _ _ _ _ _ us hl=>match us,hl with | [_,_],_=>rfl
 have Fm22:=funV_mk (st:=py_KingHand_ending) lm22 cm22 km22
 have bm22:=Fm22.binds (ps:=["self"]) fun _ _ _ _ _ _ us hl=>match us,hl with | [_],_=>rfl
 have Fm23:=funV_mk (st:=py_KingHand_hear) lm23 cm23 km23
 have bm23:=Fm23.binds (ps:=["self","turn","letters"]) fun _ _ _ _ _ _ us hl=>match us,hl with | [_,_,_],_=>rfl
 have Fm24:=funV_mk (st:=py_KingHand_hear_backing) lm24 cm24 km24
 have bm24:=Fm24.binds (ps:=["self","letters"]) fun _ _ _ _ _ _ us hl=>match us,hl with | [_,_],_=>rfl
 have Fm25:=funV_mk (st:=py_KingHand_hear_king) lm25 cm25 km25
 have bm25:=Fm25.binds (ps:=["self","turn","letters"]) fun _ _ _ _ _ _ us hl=>match us,hl with | [_,_,_],_=>rfl
 have Fm26:=funV_mk (st:=py_KingHand_hear_sender) lm26 cm26 km26
 have bm26:=Fm26.binds (ps:=["self","letters"]) fun _ _ _ _ _ _ us hl=>match us,hl with | [_,_],_=>rfl
 have Fm27:=funV_mk (st:=py_KingHand_king_of) lm27 cm27 km27
 have bm27:=Fm27.binds (ps:=["self","turn"]) fun _ _ _ _ _ _ us hl=>match us,hl with | [_,_],_=>rfl
 have Fm28:=funV_mk (st:=py_KingHand_say) lm28 cm28 km28
 have bm28:=Fm28.binds (ps:=["self","turn"]) fun _ _ _ _ _ _ us hl=>match us,hl with | [_,_],_=>rfl
 have Fm29:=funV_mk (st:=py_KingHand_story) lm29 cm29 km29
 have bm29:=Fm29.binds (ps:=["self"]) fun _ _ _ _ _ _ us hl=>match us,hl with | [_],_=>rfl
 have Fm30:=funV_mk (st:=py_KingHand_writers) lm30 cm30 km30
 have bm30:=Fm30.binds (ps:=["self","turn"]) fun _ _ _ _ _ _ us hl=>match us,hl with | [_,_],_=>rfl
 have Fm31:=funV_mk (st:=py_Hand_init) lm31 cm31 km31
 have bm31:=Fm31.binds (ps:=["self","number","many","rounds"]) fun _ _ _ _ _ _ us hl=>match us,hl with | [_,_,_,_],_=>rfl
 have hk:ClsOk tab K mg prog:=by
  refine ⟨?_,?_,?_,?_,Nat.le_refl _,?_⟩
  · intro c x hx
    match c,hx with
    | 0, hx =>
      cases hx
      refine ⟨_,rfl,⟨pg0,hd0,po0,sa0⟩,PySem.W.mg_of X G aC0,AllIn.get (l:=tab.flds) (And.intro n0_number (And.intro n0_many (And.intro n0_rounds (And.intro n0_bound (And.intro n0_sender (And.intro n0_word (And.intro n0_held (And.intro n0_backing (And.intro n0_holdings trivial)))))))))⟩
    |n+1,hx=>simp [tab] at hx
  · exact fun c m fi hx=>AllIn.get (P:=fun q=>MOk K tab prog q.2.2 (ExM K q.1 q.2.1)) (l:=tab.mts)
     (And.intro (⟨⟨c_KingHand_all_words,_,_,py_KingHand_all_words,_,_,_,_,_,rfl,rfl,Fm21,sc_KingHand_all_words,ck_KingHand_all_words,rfl,rfl,bm21,_,rfl,⟨pg0,hd0,po0,sa0⟩,⟨x0_all_words,im21,km21⟩⟩⟩) (And.intro (⟨⟨c_KingHand_ending,_,_,py_KingHand_ending,_,_,_,_,_,rfl,rfl,Fm22,sc_KingHand_ending,ck_KingHand_ending,rfl,rfl,bm22,_,rfl,⟨pg0,hd0,po0,sa0⟩,⟨x0_ending,im22,km22⟩⟩⟩) (And.intro (⟨⟨c_KingHand_hear,_,_,py_KingHand_hear,_,_,_,_,_,rfl,rfl,Fm23,sc_KingHand_hear,ck_KingHand_hear,rfl,rfl,bm23,_,rfl,⟨pg0,hd0,po0,sa0⟩,⟨x0_hear,im23,km23⟩⟩⟩) (And.intro (⟨⟨c_KingHand_hear_backing,_,_,py_KingHand_hear_backing,_,_,_,_,_,rfl,rfl,Fm24,sc_KingHand_hear_backing,ck_KingHand_hear_backing,rfl,rfl,bm24,_,rfl,⟨pg0,hd0,po0,sa0⟩,⟨x0_hear_backing,im24,km24⟩⟩⟩) (And.intro (⟨⟨c_KingHand_hear_king,_,_,py_KingHand_hear_king,_,_,_,_,_,rfl,rfl,Fm25,sc_KingHand_hear_king,ck_KingHand_hear_king,rfl,rfl,bm25,_,rfl,⟨pg0,hd0,po0,sa0⟩,⟨x0_hear_king,im25,km25⟩⟩⟩) (And.intro (⟨⟨c_KingHand_hear_sender,_,_,py_KingHand_hear_sender,_,_,_,_,_,rfl,rfl,Fm26,sc_KingHand_hear_sender,ck_KingHand_hear_sender,rfl,rfl,bm26,_,rfl,⟨pg0,hd0,po0,sa0⟩,⟨x0_hear_sender,im26,km26⟩⟩⟩) (And.intro (⟨⟨c_KingHand_king_of,_,_,py_KingHand_king_of,_,_,_,_,_,rfl,rfl,Fm27,sc_KingHand_king_of,ck_KingHand_king_of,rfl,rfl,bm27,_,rfl,⟨pg0,hd0,po0,sa0⟩,⟨x0_king_of,im27,km27⟩⟩⟩) (And.intro (⟨⟨c_KingHand_say,_,_,py_KingHand_say,_,_,_,_,_,rfl,rfl,Fm28,sc_KingHand_say,ck_KingHand_say,rfl,rfl,bm28,_,rfl,⟨pg0,hd0,po0,sa0⟩,⟨x0_say,im28,km28⟩⟩⟩) (And.intro (⟨⟨c_KingHand_story,_,_,py_KingHand_story,_,_,_,_,_,rfl,rfl,Fm29,sc_KingHand_story,ck_KingHand_story,rfl,rfl,bm29,_,rfl,⟨pg0,hd0,po0,sa0⟩,⟨x0_story,im29,km29⟩⟩⟩) (And.intro (⟨⟨c_KingHand_writers,_,_,py_KingHand_writers,_,_,_,_,_,rfl,rfl,Fm30,sc_KingHand_writers,ck_KingHand_writers,rfl,rfl,bm30,_,rfl,⟨pg0,hd0,po0,sa0⟩,⟨x0_writers,im30,km30⟩⟩⟩) trivial)))))))))) (c,m,fi) hx
  · intro c fi hx
    simp only [tab,List.contains_iff_mem,List.mem_cons,List.not_mem_nil,or_false,Prod.mk.injEq] at hx
    rcases hx with ⟨rfl,rfl⟩
    · exact ⟨⟨c_KingHand_init,_,_,py_KingHand_init,_,_,_,_,_,rfl,rfl,Fm20,sc_KingHand_init,ck_KingHand_init,rfl,rfl,bm20,_,rfl,⟨mkc0,x0_init,im20,kc0⟩⟩⟩
  · intro x m fi hx
    simp only [tab,List.contains_iff_mem,List.mem_cons,List.not_mem_nil,or_false,Prod.mk.injEq] at hx
    rcases hx with ⟨rfl,rfl,rfl⟩
    · exact ⟨⟨c_Hand_init,_,_,py_Hand_init,_,_,_,_,_,rfl,rfl,Fm31,sc_Hand_init,ck_Hand_init,rfl,rfl,bm31,_,_,PySem.W.mg_of X G ac_Hand,gc_Hand,rc_Hand,fc_Hand⟩⟩
  · intro x cs hx
    simp only [tab,List.contains_iff_mem,List.mem_cons,List.not_mem_nil,or_false,Prod.mk.injEq] at hx
    rcases hx with ⟨rfl,rfl⟩
    · refine ⟨_,PySem.W.mg_of X G aI_Hand,fun c C hC=>?_⟩
      match c,hC with
      |0,hC=>cases hC;exact ⟨⟨ja0,jn,jt,jm0⟩,kit0_Hand⟩
      |n+1,hC=>simp [Mks.cl,mks] at hC
 exact def_ok (tab_ok hb hc (hd base bm) hk 9) F19 rfl sc_law ck_law rfl rfl
end
end K51
open PySem PySem.W PyProof.Rows
set_option maxRecDepth 100000 in
set_option maxHeartbeats 0 in
theorem PySem.Challenge.cw_traitorround_k51_a_king_hand_holds : PySem.Challenge.rw_traitorround_k51_a_king_hand.Holds := by
 w_on;o_law;k_head;(case hw=>w_witness2)
 k_fill
 refine R.walk_ofT (l:=PySem.Challenge.rw_traitorround_k51_a_king_hand) (n:=63) (k:=20) (x:="_law_script") (sp:=fun w=>R.spF _ (R.callF K51.prog 10) 18) rfl (by decide) rfl ⟨rfl,by decide,by decide⟩ (fun w h Y=>PySem.W.km_in_of Y) ?hT ?hK ?F (fun _ _ a ns hl hx tb=>R.law_spT hx tb (K51.law_true ns hl))
 case hT=>
  intro w h Y p hp
  simp only [R.Mks.ts,K51.mks,List.mem_cons,List.not_mem_nil,or_false] at hp
  subst hp
  exact PySem.W.km_tabs_of Y 23 (by simp)
 case hK=>
  intro w p hp
  simp only [R.Mks.ts,K51.mks,List.mem_cons,List.not_mem_nil,or_false] at hp
  subst hp
  exact ⟨by with_unfolding_all rfl,27,by with_unfolding_all rfl⟩
 case F=>
  intro w mg fa h KX G hmg
  refine' K51.all_mk KX G hmg ?a1 ?l1 ?c1 ?k1 ?a2 ?l2 ?c2 ?k2 ?h2 ?a3 ?l3 ?c3 ?k3 ?a4 ?l4 ?c4 ?k4 ?a5 ?l5 ?c5 ?k5 ?a6 ?l6 ?c6 ?k6 ?a7 ?l7 ?c7 ?k7 ?a8 ?l8 ?c8 ?k8 ?a9 ?l9 ?c9 ?k9 ?a10 ?l10 ?c10 ?k10 ?a11 ?l11 ?c11 ?k11 ?a12 ?l12 ?c12 ?k12 ?a13 ?l13 ?c13 ?k13 ?a14 ?l14 ?c14 ?k14 ?a15 ?l15 ?c15 ?k15 ?a16 ?l16 ?c16 ?k16 ?a17 ?l17 ?c17 ?k17 ?a18 ?l18 ?c18 ?k18 ?a19 ?l19 ?c19 ?k19 ?aC0 ?pg0 ?hd0 ?po0 ?sa0 ?mkc0 ?kc0 ?n0_number ?n0_many ?n0_rounds ?n0_bound ?n0_sender ?n0_word ?n0_held ?n0_backing ?n0_holdings ?ja0 ?jm0 ?x0_init ?x0_all_words ?x0_ending ?x0_hear ?x0_hear_backing ?x0_hear_king ?x0_hear_sender ?x0_king_of ?x0_say ?x0_story ?x0_writers ?jn ?jt ?aI_Hand ?kit0_Hand ?ac_Hand ?gc_Hand ?rc_Hand ?fc_Hand ?lm20 ?cm20 ?km20 ?im20 ?lm21 ?cm21 ?km21 ?im21 ?lm22 ?cm22 ?km22 ?im22 ?lm23 ?cm23 ?km23 ?im23 ?lm24 ?cm24 ?km24 ?im24 ?lm25 ?cm25 ?km25 ?im25 ?lm26 ?cm26 ?km26 ?im26 ?lm27 ?cm27 ?km27 ?im27 ?lm28 ?cm28 ?km28 ?im28 ?lm29 ?cm29 ?km29 ?im29 ?lm30 ?cm30 ?km30 ?im30 ?lm31 ?cm31 ?km31 ?im31 ?z_all ?z_bool ?z_int ?z_isinstance ?z_len ?z_list ?z_max ?z_range ?z_sorted ?z_tuple ?z_zip ?q_STILL
  (case a1=>k_is)
  (case l1=>k_is)
  (case c1=>k_is)
  (case k1=>k_is)
  (case a2=>k_is)
  (case l2=>k_is)
  (case c2=>k_is)
  (case k2=>k_is)
  (case h2=>with_unfolding_all rfl)
  (case a3=>k_is)
  (case l3=>k_is)
  (case c3=>k_is)
  (case k3=>k_is)
  (case a4=>k_is)
  (case l4=>k_is)
  (case c4=>k_is)
  (case k4=>k_is)
  (case a5=>k_is)
  (case l5=>k_is)
  (case c5=>k_is)
  (case k5=>k_is)
  (case a6=>k_is)
  (case l6=>k_is)
  (case c6=>k_is)
  (case k6=>k_is)
  (case a7=>k_is)
  (case l7=>k_is)
  (case c7=>k_is)
  (case k7=>k_is)
  (case a8=>k_is)
  (case l8=>k_is)
  (case c8=>k_is)
  (case k8=>k_is)
  (case a9=>k_is)
  (case l9=>k_is)
  (case c9=>k_is)
  (case k9=>k_is)
  (case a10=>k_is)
  (case l10=>k_is)
  (case c10=>k_is)
  (case k10=>k_is)
  (case a11=>k_is)
  (case l11=>k_is)
  (case c11=>k_is)
  (case k11=>k_is)
  (case a12=>k_is)
  (case l12=>k_is)
  (case c12=>k_is)
  (case k12=>k_is)
  (case a13=>k_is)
  (case l13=>k_is)
  (case c13=>k_is)
  (case k13=>k_is)
  (case a14=>k_is)
  (case l14=>k_is)
  (case c14=>k_is)
  (case k14=>k_is)
  (case a15=>k_is)
  (case l15=>k_is)
  (case c15=>k_is)
  (case k15=>k_is)
  (case a16=>k_is)
  (case l16=>k_is)
  (case c16=>k_is)
  (case k16=>k_is)
  (case a17=>k_is)
  (case l17=>k_is)
  (case c17=>k_is)
  (case k17=>k_is)
  (case a18=>k_is)
  (case l18=>k_is)
  (case c18=>k_is)
  (case k18=>k_is)
  (case a19=>k_is)
  (case l19=>k_is)
  (case c19=>k_is)
  (case k19=>k_is)
  (case aC0=>k_is)
  (case pg0=>k_is)
  (case hd0=>k_is)
  (case po0=>k_is)
  (case sa0=>k_is)
  (case mkc0=>k_is)
  (case kc0=>k_is)
  (case n0_number=>k_is)
  (case n0_many=>k_is)
  (case n0_rounds=>k_is)
  (case n0_bound=>k_is)
  (case n0_sender=>k_is)
  (case n0_word=>k_is)
  (case n0_held=>k_is)
  (case n0_backing=>k_is)
  (case n0_holdings=>k_is)
  (case ja0=>k_is)
  (case jm0=>k_is)
  (case x0_init=>k_is)
  (case x0_all_words=>k_is)
  (case x0_ending=>k_is)
  (case x0_hear=>k_is)
  (case x0_hear_backing=>k_is)
  (case x0_hear_king=>k_is)
  (case x0_hear_sender=>k_is)
  (case x0_king_of=>k_is)
  (case x0_say=>k_is)
  (case x0_story=>k_is)
  (case x0_writers=>k_is)
  (case jn=>k_is)
  (case jt=>k_is)
  (case aI_Hand=>k_is)
  (case kit0_Hand=>with_unfolding_all rfl)
  (case ac_Hand=>k_is)
  (case gc_Hand=>k_is)
  (case rc_Hand=>k_is)
  (case fc_Hand=>k_is)
  (case lm20=>k_is)
  (case cm20=>k_is)
  (case km20=>k_is)
  (case im20=>k_is)
  (case lm21=>k_is)
  (case cm21=>k_is)
  (case km21=>k_is)
  (case im21=>k_is)
  (case lm22=>k_is)
  (case cm22=>k_is)
  (case km22=>k_is)
  (case im22=>k_is)
  (case lm23=>k_is)
  (case cm23=>k_is)
  (case km23=>k_is)
  (case im23=>k_is)
  (case lm24=>k_is)
  (case cm24=>k_is)
  (case km24=>k_is)
  (case im24=>k_is)
  (case lm25=>k_is)
  (case cm25=>k_is)
  (case km25=>k_is)
  (case im25=>k_is)
  (case lm26=>k_is)
  (case cm26=>k_is)
  (case km26=>k_is)
  (case im26=>k_is)
  (case lm27=>k_is)
  (case cm27=>k_is)
  (case km27=>k_is)
  (case im27=>k_is)
  (case lm28=>k_is)
  (case cm28=>k_is)
  (case km28=>k_is)
  (case im28=>k_is)
  (case lm29=>k_is)
  (case cm29=>k_is)
  (case km29=>k_is)
  (case im29=>k_is)
  (case lm30=>k_is)
  (case cm30=>k_is)
  (case km30=>k_is)
  (case im30=>k_is)
  (case lm31=>k_is)
  (case cm31=>k_is)
  (case km31=>k_is)
  (case im31=>k_is)
  (case z_all=>k_is)
  (case z_bool=>k_is)
  (case z_int=>k_is)
  (case z_isinstance=>k_is)
  (case z_len=>k_is)
  (case z_list=>k_is)
  (case z_max=>k_is)
  (case z_range=>k_is)
  (case z_sorted=>k_is)
  (case z_tuple=>k_is)
  (case z_zip=>k_is)
  (case q_STILL=>k_is)
end
