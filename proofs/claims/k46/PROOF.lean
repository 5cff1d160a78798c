import PyProof.Rows.All
import Wide.All
import OpenK.AllK
import Wide.FinOn
import Lean
import PyProof.EqAt
import PyProof.EqKinds
import PyProof.TupleCall
import PyProof.P3Statements
import PySem.Syntax
import PyProof.Dict
import PyProof.Rows.SortRuns
import PySem.Challenge.RW_traitorround_k46_what_is_kept
set_option Elab.async false
set_option linter.all false
set_option maxHeartbeats 4000000
set_option maxRecDepth 100000
set_option bootstrap.genMatcherCode false
set_option genInjectivity false
set_option genSizeOf false
set_option genSizeOfSpec false
local macro_rules|`(command|def $n:declId $b:bracketedBinder* : $t $v:declVal)=>`(command|theorem $n:declId $b:bracketedBinder* : $t $v:declVal)
local macro_rules|`(command|abbrev $n:declId $s:optDeclSig $v:declVal)=>`(command|noncomputable def $n:declId $s:optDeclSig $v:declVal)
local macro_rules|`(tactic|simp! [$x,*] $[$l]?)=>`(tactic|simp only [$x,*] $[$l]?)
local macro_rules|`(tactic|let ⟨$x,*⟩:=$e)=>do let N:=fun (k:Lean.Name) a=>Lean.Syntax.node .none (`Lean.Parser.Tactic++k) a;let O:=fun a=>Lean.mkNullNode a;let M:=fun p=>N `rcasesPatMed #[O #[p]];return N `obtain #[Lean.mkAtom "",O #[M ((← `(⟨$x,*⟩)).raw.rewriteBottomUp fun s=>if s.isIdent then N `rcasesPat.one #[s] else match s with|.node _ k a=>if k==`Lean.Parser.Term.hole then N `rcasesPat.ignore a else if k==`Lean.Parser.Term.anonymousCtor then N `rcasesPat.tuple #[a[0]!,O (a[1]!.getArgs.mapIdx fun i p=>if i%2==0 then N `rcasesPatLo #[M p,O #[]] else p),a[2]!] else s|_=>s)],O #[],O #[Lean.mkAtom "",O #[e]]]
open Option renaming some→Φ,none→Ψ
open Bool renaming true→Δ,false→Θ,and_eq_true→Β,false_ne_true→Ε,false_eq_true→Κ,not_true→ώ,or_eq_true→Ϯ
open PySem renaming wpAny_bind→Ξ,wpAny_pure→Λ,Value→Ω,Shared→Ι,Program→Χ,wpAny_newObj_type→ό,wpAny_call_entry→ύ,sizeLine_eq→ϑ,World→ϒ,Around→ϔ,wpAny_holding→ϙ,wpAny_forIn_list→ϛ,wpAny_callSpecial?_slot→Ϝ,codeAny_builtin→Ϟ,wpAny_truthy_bool→ϟ,wpAny_setState_of→Ϡ,wpAny_mono→Ϥ,wpAny_seqItems→Ϧ,wpAny_specialOf→Ϩ,codeAny_mono→ϩ,wpAny_rule→Ϭ,wpAny_isInstance→ϭ
open PySem.Heap renaming get?_push_of_some→Α,get?_push_size→Μ,lt_size→Ν,size_push→ϓ
open List renaming getElem?_eq_some_iff→Ζ,getElem?_eq_getElem→Η,mem_cons_of_mem→Ρ,mem_cons_self→Υ,map_cons→ϊ,mem_iff_getElem→ϖ,getD_eq_getElem?_getD→ϗ,getElem_mem→Ϙ,getElem?_eq_none→ϝ,map_congr_left→Ϣ
open PyProof.Rows renaming wpS_bind→Ο,wpS_pure→Τ,wpS_forRange→ϧ,wpS_mono→ϫ
open Array renaming getElem?_toList→ϋ,getElem?_eq_getElem→ϐ,toList_append→ϕ,getElem_toList→ϡ,forIn_toList→ϣ
open PySem.Around renaming under_plainId→Ϛ
open Nat renaming lt_succ_of_lt→ϥ,lt_succ_self→Ϫ,add_assoc→ϯ
open PySem.W (Frag KatTups callWith_K callWith_K0 codeIn emptyDict findCls findIn fnOf handedIn hasDictIn instObj isFn kat_cons kat_no kat_one keepIn kia_one kitOne kitx_dict kitx_list lookIn makesIn methodObj mg_of mroIn nsIn plainGet plainGet_of plainOver readsIn specialIn takerIn takesIn)
open Bool (and_eq_true not_eq_true' or_eq_true)
open List (Pairwise all_cons all_eq_true any_cons append_assoc append_nil ext_getElem? getElem?_append_left getElem?_append_right getElem?_map getElem?_set_ne getElem?_set_self isEmpty_iff length_append length_cons length_map length_mapIdx length_nil length_range length_replicate length_take lookup_cons mapM_cons map_append map_cons map_map map_nil mem_append mem_append_left mem_append_right mem_cons mem_cons_of_mem mem_cons_self mem_filter mem_map mem_of_getElem? mem_range mem_singleton nodup_append nodup_cons not_mem_nil pairwise_cons pairwise_map prefix_append prefix_refl size_toArray)
open Nat (le_of_eq le_of_lt le_refl le_succ le_trans lt_irrefl lt_of_lt_of_le lt_succ_of_lt lt_succ_self lt_trans ne_of_gt ne_of_lt zero_add zero_le)
open Array (length_toList)
open Option (bind_some)
open Int (emod_nonneg)
structure PySem.W.Fast:Prop where(tw10366006862649108547 tw10440772634956780446 tw10582236287035206752 tw11016378131316245974 tw11089148098720844571 tw11099710307165341366 tw11425057439560110125 tw11684656683814160238 tw11731847046294101801 tw11921381211608458165 tw11993964174131364125 tw1222548307305457124 tw12372805380937285479 tw12644418128931318677 tw1274236048691589658 tw12778703426824214682 tw12842277073208522727 tw12997394535615946133 tw13031587104269250723 tw13312143115487336076 tw13660533741674616990 tw13726359181584230655 tw14009776067911096175 tw14168243423373312952 tw14188967715405472682 tw14224449433305741621 tw14371431600908571466 tw14376663014326432104 tw14473392447413898012 tw14534984805008105177 tw14596393043062918896 tw15139547857745779121 tw15205820508239376557 tw15338776718524937463 tw15547963668246377822 tw15621190598524753138 tw15979787682659230216 tw16117120554844602097 tw16314554294550969971 tw16545705442788765095 tw16604828294516322172 tw16943494208284714633 tw17028357817310919166 tw17090721702309711926 tw17211676855243456617 tw17360463042042017913 tw17764150332769600260 tw17779736756949940743 tw17956303154352782700 tw18141819996098901684 tw18365558467340267027 tw18366913504908775656 tw18406860494089987777 tw2143091821062993532 tw2209127539090015607 tw2342939043843745924 tw2519290721892379561 tw2520552223410725771 tw2564799183210263302 tw3102791670922169619 tw3719450805776207872 tw3896790947727633018 tw4415898723905413542 tw5017139260528564110 tw5061322841713981180 tw5109133487155359147 tw511473162305420640 tw5249757271476518310 tw5745262935310042521 tw5792107923750893213 tw5880452531992113279 tw6307658661846335741 tw6324527432475087558 tw6510769687738347784 tw6583673720094587119 tw6592003238723575128 tw6630602467904021049 tw6700684834457543195 tw6782564538340356855 tw6790487669714827930 tw684853698886665718 tw6918078389528540203 tw7416723340204450948 tw7557298788560033515 tw8112189669908607199 tw8322830610194113366 tw8705589166688382300 tw874009565118429874 tw8769729378629027420 tw8940419554665510189 tw9096335883637303146 tw9116975548154236683 tw9260779358550392238 tw9369599365114858078 tw9643617237578751976 tw9877084585853618324 tw2101313905871169638 tw561238411882691813 tw10195365561753065250 tw1160064119123117510 tw13027551812118701626 tw15196534852258121280 tw6571420802801638159 tw6799841785056352054 tw8131980081533281777 tw8815628156591847173 tw12295276277434756878 tw16340106781651577027 tw1827501595187023859 tw3304419840674411663 tw18347248934211996406 tw15596471698021240728 tw1622607292466974712 tw16701707657008181080 tw17585684598722354728 tw3712761585821358762 tw7256446561925857394 tw7902120209339555645 tw8014707412630540267 tw11416726137957236246 tw12029489147444573914 tw12127908606187019389 tw4455063026247483171 tw5083643118305618515 tw7613517963384932241 tw8657270452679350275 tw8666683886308102845 tw2088345696507294448 tw17494117606489302690 tw15418744972484676306 tw17175194978100802854 tw18057763743352131797 tw5439766150708729799 tw6076450840389634634 tw8183235706306038950 tw9724323208829420875 tw9800826198165586794 tw1208853024199558458 tw13897703684456713621 tw15378764326040213405 tw18247319402478530532 tw754009382728225547 tw14513453050394324363 tw10821786754097838764 tw11437334035887397323 tw8698982964964237847 tw2529886275156860278 tw11071512681597027848 tw12852225800737591241 tw5530709663758194238 tw15027626849219183557 tw16640118525512391031 tw4589414414205316144 tw6164327625940903888 tw12670053052668058275 tw14098673752111498173 tw2935209063641686395 tw14498262964115444810 tw2097166173709541567 tw6916336108238554168 tw10081291262291977553 tw7383578854713184447 tw7681211497231328130 tw19534667731469575 tw13824366796779729604 tw916156270357223790 tw120568027397958397 tw2809973198640247194 tw4403641922486166330 tw7978386793643402771 tw10420318756332461952 tw9195597215078107841 tw16173194416905132556 tw6439871633675784098 tw10640733433173130430 tw13664974697868923284 tw13527751228518148843 tw6377960077813646684 tw2842796553339873618 tw736166139003352316 tw15886630256388399009 tw2042384520046044513 tw4613756907157251362 tw5056599246328910662 tw7396290477049361986 tw10843142838019558670 tw3784626862483331755 tw15644396754577401213 tw2534577799266865108 tw3717145165728607155 tw5282787773344017005 tw5376367505432936592 tw10970470147397861641 tw7032930204016365382 tw13149247521971557305 tw14110297088038249560 tw6866172363421448380 tw4861319177317324041 tw6232943188293616656 tw9750459070877773984 tw2561104374107724947 tw11302104650800135905 tw6655130076336072233 tw13261069663378497012 tw13338878413940191178 tw1921822914152115067 tw12501752658901706606 tw18386582805471660958 tw2362140298856120911 tw8795138089793816107 tw5257896316827651597 tw4005531808131729019 tw14415224634255082447 tw16292082793638637005 tw13037901247761097909 tw18074691810301506219 tw3405647148562917139 tw5936751454374080772 tw9395280883291615510 tw17344592492743395633 tw483186892208506174 tw4495531215290300596 tw11272850879940976706 tw14322921575739169880 tw2578475439741229126 tw12378148244556918775 tw4905580075943590747 tw13020469745330869801 tw14888912086066452607 tw1825132877325331157 tw6850728578832826252 tw2228270108451129099 tw1692908725478670840 tw15115465486553768686 tw10441938155808923154 tw11744017901556135753 tw1300826289331569333 tw15651478206861728120 tw14772192371962201826 tw14137647091302803708 tw8238278856405080107 tw742027074121693314 tw2409296137162432714 tw12561356788468593635 tw2988839630346698603 tw10033112520281771005 tw12532958706495013950 tw11517827672874293522 tw16812544235066288258 tw6633235735182176677 tw8161025092810595578 tw8540596534408041907 tw3696784474512179923 tw14012107076327733732 tw7669527902156164669 tw6026722195565473968 tw10389052143931826052 tw16679245966136633810 tw17947253463656260619 tw2369885453518482749 tw8624569007710524557 tw10550613253081024597 tw12616548245671211779 tw8413350171309007798 tw2009772139763654357 tw8889870469145728376 tw5488720178037812413 tw6294217028371864656 tw9490776666109533464 tw8004106720422006733 tw11643524679891077051 tw9596261189574070301 tw5820204610528298193 tw6986637928505389629 tw5082351351315505661 tw14832958981525608506 tw704506621721689090 tw1262404470004214711 tw433933958395434087 tw7622355502013094350 tw15963365469192645143 tw1301535078308566772 tw10051593755507551544 tw1609199837124693318 tw5444649961691834926 tw14144466542328871743 tw17549553707961511028 tw17658609141892471656 tw14835028543338546296 tw5832356630258945573 tw14943875369654494611 tw3489370677060533015 tw13519089944992825936 tw17565143356130048728 tw16730131004827328490 tw1926612914927194698 tw215089674732886752 tw4138745099405381207 tw17734324364574737848 tw13355154876481345883 tw3563995333399291751 tw16598247166625443828 tw7070600076818193847 tw13150338231472779956 tw12059297813746851016 tw17475754252509369244 tw5601628253002646719 tw17714241657937282242 tw10521383649656267433 tw14574698123609446065 tw5381439244999837811 tw16313413221765024489 tw4806384292467150212 tw11646287886512476185 tw7838256201603964054 tw11226766271627909207 tw1892465341299033751 tw810423729485672227 tw13791839696116047667 tw10590858195198232375 tw4466029009483312882 tw16087924822246075413 tw17243903492697529877 tw10311073871921024801 tw4508652829111081809 tw12685568649579955338 tw12769787558769769244 tw7793695649302063954 tw12265839839898780710 tw12018968718105835788 tw3780498176240958486 tw9238611963905905550 tw15619454577857603019 tw11321487197628492134 tw13940116435192560139 tw6316361996337804094 tw11900379496497011458 tw6849867606178665595 tw11369455785435932634 tw5204022523643893590 tw9493090009481414145 tw16583461923564453702 tw16382941704425660662 tw18420661591242469611 tw5002419684297310731 tw16614041833205682479 tw10879714066429349197 tw14220874894472690140 tw10876428383353235846 tw6870813245058256644 tw5688839861454983242 tw1899495408236796804 tw13401476865327424963 tw2976880350067698288 tw13212267288535202629 tw11196968717126062435 tw11006436844529306552 tw7161466607033611650 tw2198308305217574532 tw10755732210857674968 tw1067653361026510648 tw12643394920407206586 tw8596178232385686955 tw516288104797929496 tw9846330442219043707 tw14128129946757669223 tw1211336190139269613 tw10576009534858944594 tw2585268719170298763 tw16979994372392627824 tw13927844408320924347 tw8602602375889299191 tw17946449494721009866 tw6553180315667784521 tw1327074085925983098 tw11206880597419414155 tw12246416115421276509 tw16002768756474095735 tw10309727409593305463 tw5584692366766601858 tw15957898485956746545 tw3905247087555335415 tw6091053618924760133 tw1321652322410085996 tw17805312971810840266 tw10154073106528476420 tw14831767809125921698 tw4368300830296593647 tw5929805245994876118 tw17947072439266156064 tw3346580164383139087 tw10298154155339478147 tw4710756777883669088 tw10750013745574401763 tw15845627520127537878 tw14749456002224806611 tw14233965550874443977 tw17056495008885310208 tw12540144803733518495 tw14479438367778705573 tw11914548586855815497 tw8351038351031439447 tw15357595389264360991 tw15256234506763915106 tw3727557703940639709 tw4545402537958972763 tw16532710286139443518 tw786379684927700339 tw5683750017209116534 tw17303788501547999172:True)
def nS{α:Type _}{a:α}{P:Prop}(h:Ψ=Φ a):P:=by cases h
def nB{P:Prop}(h:Θ=Δ):P:=by cases h
def usS{b:Type}{P:List b->Prop}(h:∀a,∀us:List b,us.length=n->P (a::us)):∀us:List b,us.length=n+1->P us:=λus e=>by cases us with|nil=>cases e|cons a us=>exact h a us (Nat.succ.inj e)
def usZ{a:Type}{P:List a->Prop}(h:P []):∀us:List a,us.length=0->P us:=λus e=>by cases us with|nil=>exact h|cons=>cases e
def eY{α β:Type _}{p q r:α->β->Prop}{P:Prop}(h:∃a b,p a b/\q a b/\r a b)(k:∀a b,p a b->q a b->r a b->P):P:=h.elim λa h=>h.elim λb h=>k a b h.1 h.2.1 h.2.2
namespace L2
open PySem PySem.Spec PyProof.Rows
@[reducible]def Key:=Sum Int Str
abbrev zfS:Key->Ω->Bool
 |.inl k,v=>Ω.isInt k v|.inr x,v=>Ω.isStrOf x v
abbrev keyH(w:ϒ):Key->Int
 |.inl k=>hashInt k|.inr x=>hashStr w x
def zat:∀{k:Key}{v:Ω},zfS k v=Δ->(∃i t,k=Sum.inl i/\v=Ω.int i t)\/(∃x t,k=Sum.inr x/\v=Ω.str x t)
 |.inl i,v,h=>by let⟨t,e⟩:=Ω.isInt_shape (k:=i) (v:=v) h;exact .inl ⟨i,t,rfl,e⟩| .inr x,v,h=>by let⟨t,e⟩:=Ω.isStrOf_shape (x:=x) (v:=v) h;exact .inr ⟨x,t,rfl,e⟩
def zj4(i)(t):zfS (.inl i) (.int i t)=Δ:=by simp[zfS,Ω.isInt]
def zj3(x)(t):zfS (.inr x) (.str x t)=Δ:=by simp[zfS,Ω.isStrOf]
def zqO(a b):decide ((Sum.inl a:Key)=Sum.inl b)=(a==b):=by by_cases e:a=b;subst e;simp;have h:¬(Sum.inl a:Key)=Sum.inl b:=λq=>e (Sum.inl.inj q);rw[decide_eq_false h];exact(beq_eq_false_iff_ne.mpr e).symm
def zqL(a b):decide ((Sum.inr a:Key)=Sum.inr b)=decide (a=b):=by by_cases e:a=b;subst e;simp;have h:¬(Sum.inr a:Key)=Sum.inr b:=λq=>e (Sum.inr.inj q);rw[decide_eq_false h,decide_eq_false e]
def zqN(a)(b):decide ((Sum.inl a:Key)=Sum.inr b)=Θ:=decide_eq_false (λq=>by cases q)
def zqM(a)(b):decide ((Sum.inr a:Key)=Sum.inl b)=Θ:=decide_eq_false (λq=>by cases q)
abbrev zaf(prog:Χ)(w:ϒ):PySem.KeyKind prog w Key where
 is:=zfS
 hash:=keyH w
 inj:=λv a b ha hb=>by rcases zat ha with⟨i,t,rfl,rfl⟩|⟨x,t,rfl,rfl⟩;rcases zat hb with⟨j,u,rfl,e⟩|⟨y,u,rfl,e⟩;injection e with e1 _;rw[e1];exact nomatch e;rcases zat hb with⟨j,u,rfl,e⟩|⟨y,u,rfl,e⟩;exact nomatch e;injection e with e1 _;rw[e1]
 byValue:=λk v h=>by rcases zat h with⟨i,t,rfl,rfl⟩|⟨x,t,rfl,rfl⟩<;>rfl
 pyHash:=λhv h=>by rcases zat hv with⟨i,t,rfl,rfl⟩|⟨x,t,rfl,rfl⟩;exact wpAny_pyHash_int h;exact wpAny_pyHash_str h
 eqBool:=λhu hv h=>by rcases zat hu with⟨i,t,rfl,rfl⟩|⟨x,t,rfl,rfl⟩;rcases zat hv with⟨j,u,rfl,rfl⟩|⟨y,u,rfl,rfl⟩;rw[zqO]at h;exact wpAny_eqBool_int h;rw[zqN]at h;exact SeqAt.EqAt.int_str i t y u _ _ _ _ h;rcases zat hv with⟨j,u,rfl,rfl⟩|⟨y,u,rfl,rfl⟩;rw[zqM]at h;exact SeqAt.EqAt.str_int x t j u _ _ _ _ h;rw[zqL]at h;exact wpAny_eqBool_str h
 «strs»:=λk x t v h=>by
  rcases zat h with⟨i,u,rfl,e⟩|⟨y,u,rfl,e⟩;exact nomatch e
  . injection e with e1 _;subst e1;cases v<;>rfl
def zgN(prog)(w)(i)(t):(zaf prog w).is (.inl i) (.int i t)=Δ:=zj4 i t
def zgM(prog)(w)(x)(t):(zaf prog w).is (.inr x) (.str x t)=Δ:=zj3 x t
set_option genInjectivity true in
inductive V where
 |non|bl (b:Bool)|int (i:Int)|str (x:Str)|byt (b:Array UInt8)|flt (b:UInt64)|ref (a:Addr)|ty (n:String)
 deriving DecidableEq
abbrev RelV:V->Ω->Prop
 |.non,u=>u=Ω.none|.bl b,u=>u=Ω.bool b|.int i,u=>∃t,u=Ω.int i t|.str x,u=>∃t,u=Ω.str x t|.byt b,u=>∃t,u=Ω.bytes b t|.flt b,u=>∃t,u=Ω.float b t|.ref a,u=>u=Ω.ref a|.ty n,u=>u=Ω.type n
@[reducible]def Vals:List V->List Ω->Prop:=Paired RelV
def Vals.length(r:Vals xs us):xs.length=us.length:=Paired.length r
def Vals.get:∀{xs:List V}{us:List Ω}{i:Nat}{x:V},Vals xs us->xs[i]?=Φ x->∃u,us[i]?=Φ u/\RelV x u
 |_,_,_,_,.nil,e=>by simp at e|_,_,0,_,.cons r _,e=>by simp at e;subst e;exact⟨_,rfl,r⟩| _,_,i+1,x,.cons _ t,e=>by let⟨u,a,b⟩:=Vals.get (i:=i) (x:=x) t (by simpa using e);exact⟨u,by simpa using a,b⟩
def Vals.set(r:RelV x u):∀{xs:List V}{us:List Ω}(i:Nat),Vals xs us->Vals (xs.set i x) (us.set i u)
 |_,_,_,.nil=>.nil|_,_,0,.cons _ t=>.cons r t|_,_,i+1,.cons q t=>.cons q (Vals.set r i t)
def Vals.append:∀{xs ys:List V}{us a:List Ω},Vals xs us->Vals ys a->Vals (xs++ys) (us++a)
 |_,_,_,_,.nil,s=>s|_,_,_,_,.cons r t,s=>.cons r (Vals.append t s)
def Vals.take:∀{xs:List V}{us:List Ω}(n:Nat),Vals xs us->Vals (xs.take n) (us.take n)
 |_,_,0,_=>.nil|_,_,_+1,.nil=>.nil|_,_,n+1,.cons r t=>.cons r (Vals.take n t)
def Vals.drop:∀{xs:List V}{us:List Ω}(n:Nat),Vals xs us->Vals (xs.drop n) (us.drop n)
 |_,_,0,r=>r|_,_,_+1,.nil=>.nil|_,_,n+1,.cons _ t=>Vals.drop n t
def Vals.none_of:∀{xs:List V}{us:List Ω}{i:Nat},Vals xs us->xs[i]?=Ψ->us[i]?=Ψ:=λ{xs us i} r e=>by have h1:=r.length;have h2:xs.length<=i:=List.getElem?_eq_none_iff.mp e;exact List.getElem?_eq_none_iff.mpr (by lia)
abbrev RelO:Option V->Option Ω->Prop
 |some v,Φ u=>RelV v u|none,Ψ=>True|_,_=>False
abbrev KV{κ:Type}:List (κ×V)->List (κ×Ω)->Prop:=Paired λ(p:κ×V) (q:κ×Ω)=>p.1=q.1/\RelV p.2 q.2
abbrev kV:Key->V
 |.inl i=>.int i|.inr x=>.str x
inductive HO where
 |lst (xs:List V)
 |tup (xs:List V)
 |dK (kvs:List (Key×V))|dT (kvs:List (List Key×V))
 |set (S:Int->Bool) (n:Nat)
 |ins (C dx:Addr) (fs:List (Str×V))
 |own (x:Addr)
 |xd (fs:List (Str×V))
 |met (f x:Addr)
 |rng (lo hi:Int)
 |frz (o:Obj) (u:HO)
 |tbl (ps:Array Ω)
 |ext (φ:Heap->Prop)
@[reducible]def Hp:=Addr->Option HO
abbrev upd(H:Hp)(a:Addr)(o:HO):Hp:=λb=>if b=a then Φ o else H b
def zap:upd H a o a=Φ o:=by unfold upd;rw[if_pos rfl]
def zai(h:b≠a):upd H a o b=H b:=by unfold upd;rw[if_neg h]
def ne_of{H:Hp}(h:H a=Φ o)(h':H b=Φ u)(d:o≠u):a≠b:=by intro e;subst e;rw[h]at h';exact d (Option.some.inj h')
def zav{H:Hp}(h:H a=Φ o)(h':H b=Ψ):a≠b:=by intro e;subst e;rw[h]at h';cases h'
section
variable(P:Χ)(w:ϒ)
abbrev ObjOk(H:Hp)(h:Heap)(a:Addr):HO->Prop
 |.lst xs=>xs.length<=sizeLine/\∃(its:List Ω) (n:Nat),Vals xs its/\h.get? a=Φ {cls:=.type "list",data:=.seq its.toArray n}|.tup xs=>xs.length<=sizeLine/\∃its:List Ω,Vals xs its/\IsTup h a its.toArray|.dK kvs=>kvs.length<=sizeLine/\(a==sysModules)=Θ/\∃vs,KV kvs vs/\h.DictOf (zaf P w) a vs
 |.dT kvs=>kvs.length<=sizeLine/\(a==sysModules)=Θ/\∃xs:List (List Key×Addr×Ω),
  Paired (λ(p:List Key×V) (q:List Key×Addr×Ω)=>p.1=q.1/\H q.2.1=Φ (.tup (p.1.map kV))/\RelV p.2 q.2.2) kvs xs/\
  ∃o es ep,h.get? a=Φ o/\o.ExactDict/\o.data=.dict es ep/\es.toList=xs.map (entryOfKey (tupleKind (zaf P w)))/\(xs.map (·.1)).Nodup
 |.set S n=>h.SetOf (intKind P w) a S n
 |.ins C dx fs=>H dx=Φ (.own a)/\fs.length<=1000/\dx≠a/\h.get? a=Φ (instObj C dx)/\
  ∃mA,h.Ns1 dx mA/\(∀f,RelO (fs.lookup f) (mA f))/\PySem.Within mA (fs.map (·.1))
 |.own _=>∃o,h.get? a=Φ o|.xd fs=>∃mA,h.Ns1 a mA/\∀f,RelO (fs.lookup f) (mA f)|.rng lo hi=>∃t u v,h.get? a=Φ {cls:=.type "range",data:=.fields #[.int lo t,.int hi u,.int 1 v]}|.frz o u=>h.get? a=Φ o/\ObjOk H h a u|.tbl ps=>h.get? a=Φ {cls:=.none,data:=.fields ps}|.met f x=>h.get? a=Φ (methodObj (.ref f) (.ref x))|.ext φ=>φ h/\(∃o,h.get? a=Φ o)/\∀h1 h2:Heap,φ h1->(∀o,h1.get? a=Φ o->h2.get? a=Φ o)->φ h2
abbrev HOk(H:Hp)(h:Heap):Prop:=∀a o,H a=Φ o->ObjOk P w H h a o
end
section
variable{P:Χ}{w:ϒ}{H H':Hp}{h h':Heap}{a:Addr}{o:HO}
def ObjOk.lt(x:ObjOk P w H h a o):a<h.objs.size:=by cases o with|lst c=>let⟨_,_,_,_,e⟩:=x;exact Ν e|tup c=>let⟨_,_,_,p⟩:=x;exact p.lt|dK b=>let⟨_,_,_,_,o,_,_,e,_⟩:=x;exact Ν e|dT b=>let⟨_,_,_,_,o,_,_,e,_⟩:=x;exact Ν e|set S n=>let⟨o,_,_,_,e,_⟩:=x;exact Ν e|ins C g d=>let⟨_,_,_,e,_⟩:=x;exact Ν e|own y=>let⟨_,e⟩:=x;exact Ν e|xd d=>let⟨_,⟨_,_,_,e,_⟩,_⟩:=x;exact Ν e|rng lo i=>let⟨_,_,_,e⟩:=x;exact Ν e|frz j u=>let⟨e,_⟩:=x;exact Ν e|tbl k=>exact Ν (show h.get? a=Φ _ from x)|met f y=>exact Ν (show h.get? a=Φ _ from x)|ext l=>let⟨_,⟨_,e⟩,_⟩:=x;exact Ν e
def Paired.mapP{c:List e}{d:List g}(h:Paired F c d)(f:∀a b,F a b->G a b):Paired G c d:=by induction h with|nil=>exact .nil|cons r _ i=>exact .cons (f _ _ r) i
def ObjOk.stay(x:ObjOk P w H h a o)(k:∀b u,(b=a\/H b=Φ (.own a))->h.get? b=Φ u->h'.get? b=Φ u)
  (E:∀b,H b=Φ (.own a)->H' b=Φ (.own a)) (G:∀b xs,H b=Φ (.tup xs)->H' b=Φ (.tup xs)):ObjOk P w H' h' a o:=by
 induction o with|lst xs=>let⟨z,l,n,r,e⟩:=x;exact⟨z,l,n,r,k _ _ (.inl rfl) e⟩|tup xs=>let⟨z,l,r,g,e,c⟩:=x;exact⟨z,l,r,g,k _ _ (.inl rfl) e,c⟩|dK m=>let⟨z,y,I,r,g,i,j,e,c⟩:=x;exact⟨z,y,I,r,g,i,j,k _ _ (.inl rfl) e,c⟩| dT m=>let⟨z,y,xs,r,g,i,j,e,c⟩:=x;exact⟨z,y,xs,Paired.mapP r λp q z=>⟨z.1,G _ _ z.2.1,z.2.2⟩,g,i,j,k _ _ (.inl rfl) e,c⟩|set S n=>let⟨g,i,j,t,e,c⟩:=x;exact⟨g,i,j,t,k _ _ (.inl rfl) e,c⟩| ins C O J=>let⟨d,z,L,e,s,⟨A,i,j,M,c⟩,r⟩:=x;exact⟨E _ d,z,L,k _ _ (.inl rfl) e,s,⟨A,i,j,k _ _ (.inr d) M,c⟩,r⟩|own y=>let⟨g,e⟩:=x;exact⟨g,k _ _ (.inl rfl) e⟩|xd J=>let⟨s,⟨A,i,j,e,c⟩,r⟩:=x;exact⟨s,⟨A,i,j,k _ _ (.inl rfl) e,c⟩,r⟩|rng lo Q=>let⟨t,u,v,e⟩:=x;exact⟨t,u,v,k _ _ (.inl rfl) e⟩|frz g u N=>let⟨e,q⟩:=x;exact⟨k _ _ (.inl rfl) e,N q⟩| tbl B=>have e:h.get? a=Φ {cls:=.none,data:=.fields B}:=x;show h'.get? a=Φ {cls:=.none,data:=.fields B};exact k a _ (.inl rfl) e| met f y=>have e:h.get? a=Φ (methodObj (.ref f) (.ref y)):=x;show h'.get? a=Φ (methodObj (.ref f) (.ref y));exact k a _ (.inl rfl) e|ext T=>let⟨p,⟨o,e⟩,st⟩:=x;exact⟨st _ _ p λo q=>k _ _ (.inl rfl) q,⟨o,k _ _ (.inl rfl) e⟩,st⟩
def HOk.lt(x:HOk P w H h)(e:H a=Φ o):a<h.objs.size:=(x a o e).lt
def HOk.fresh(x:HOk P w H h)(e:h.objs.size<=a):H a=Ψ:=by cases q:H a with|none=>rfl|some u=>exact absurd (lt_of_lt_of_le (x.lt q) e) (lt_irrefl _)
def HOk.kept(x:HOk P w H h)(k:∀b u,h.get? b=Φ u->h'.get? b=Φ u):HOk P w H h':=λa o e=>(x a o e).stay (λb u _ q=>k b u q) (λ_ q=>q) λ_ _ q=>q
def HOk.laid(x:HOk P w H h)(k:∀b u,h.get? b=Φ u->h'.get? b=Φ u)(g:h.objs.size<=a)(new:ObjOk P w (upd H a o) h' a o):HOk P w (upd H a o) h':=λb u e=>by have d:=x.fresh g;by_cases f:b=a;subst f;rw[zap]at e;cases e;exact new;rw[zai f]at e;exact(x b u e).stay (λc v _ q=>k c v q) (λc q=>by rw[zai (zav q d)];exact q) λc i q=>by rw[zai (zav q d)];exact q
end
abbrev Rd(H:Hp)(a:Addr)(u:HO):Prop:=H a=Φ u\/∃o,H a=Φ (.frz o u)
def Rd.ok(r:Rd H a u)(x:HOk P w H h):ObjOk P w H h a u:=by rcases r with r|⟨o,r⟩;exact x a u r;let⟨_,q⟩:=x a _ r;exact q
abbrev Mut:Option HO->Prop
 |some (.lst _)=>True|some (.dK _)=>True|some (.dT _)=>True|some (.set _ _)=>True|some (.ins _ _ _)=>True|some (.ext _)=>True|_=>False
section
variable{P:Χ}{w:ϒ}{H:Hp}{h h':Heap}{x e:Addr}{o':HO}
def HOk.write(ok:HOk P w H h)(g:Mut (H x))(n:e=x\/H e=Φ (.own x))(k:∀b u,b≠e->h.get? b=Φ u->h'.get? b=Φ u)(m:∃u,h'.get? e=Φ u)
  (new:ObjOk P w (upd H x o') h' x o'):HOk P w (upd H x o') h':=λb u q=>by
 have d:∀c y,H c=Φ (.own y)->c≠x:=λc y r z=>by subst z;rw[r]at g;exact g
 have f:∀c i,H c=Φ (.tup i)->c≠x:=λc i r z=>by subst z;rw[r]at g;exact g
 by_cases j:b=x;subst j;rw[zap]at q;cases q;exact new;rw[zai j]at q;by_cases a:b=e;have o:H b=Φ (.own x):=by rcases n with z|z;exact absurd (a.trans z) j;rw[a];exact z
 rw[q]at o;cases o;let⟨v,p⟩:=m;exact⟨v,by rw[a];exact p⟩;refine(ok b u q).stay (λc v l r=>k c v ?_ r) (λc r=>by rw[zai (d c b r)];exact r) λc i r=>by rw[zai (f c i r)];exact r
 rcases l with rfl|l;exact a;rintro rfl;rcases n with z|z;exact d c b l z;rw[l]at z;cases z;exact j rfl
end
structure Un(fs ex:List Addr)(H H':Hp)(h h':Heap):Prop where
 keep:∀b o,h.get? b=Φ o->H b=Ψ->b∉fs->b∉ex->h'.get? b=Φ o
 slot:∀b o,h.get? b=Φ o->H b=Ψ->b∈fs->b∉ex->∃sl,h'.get? b=Φ {o with slots:=sl}
 free:∀b o,h.get? b=Φ o->H b=Ψ->b∉ex->H' b=Ψ
 there:∀b o,h.get? b=Φ o->b∉ex->∃o',h'.get? b=Φ o'
 tups:∀b xs,H b=Φ (.tup xs)->H' b=Φ (.tup xs)
 frzs:∀b o u,H b=Φ (.frz o u)->H' b=Φ (.frz o u)
 tbls:∀b ps,H b=Φ (.tbl ps)->∃more,H' b=Φ (.tbl (ps++more))
section
variable{fs fs' ex ex':List Addr}{H H1 H2:Hp}{h h1 h2 h':Heap}{a x e:Addr}{o:HO}
def Un.any(u:Un fs ex H H1 h h1)(q:h.get? b=Φ c)(n:H b=Ψ)(d:b∉ex):∃g,h1.get? b=Φ {c with slots:=g}:=by by_cases f:b∈fs;exact u.slot b c q n f d;exact⟨c.slots,u.keep b c q n f d⟩
def Un.kept(k:∀b u,h.get? b=Φ u->h'.get? b=Φ u):Un fs ex H H h h':=⟨λb c q _ _ _=>k b c q,λb c q _ _ _=>⟨c.slots,k b c q⟩,λ_ _ _ n _=>n,λb c q _=>⟨c,k b c q⟩,λ_ _ q=>q,λ_ _ _ q=>q,λ_ d q=>⟨#[],by rw[q];simp⟩⟩
def Un.refl:Un fs ex H H h h:=Un.kept λ_ _ q=>q
def Un.laid(k:∀b u,h.get? b=Φ u->h'.get? b=Φ u)(d:h.objs.size<=a)(c:H a=Ψ):Un fs ex H (upd H a o) h h' where
 keep:=λb u q _ _ _=>k b u q
 slot:=λb u q _ _ _=>⟨u.slots,k b u q⟩
 free:=λb u q n _=>by rw[zai (ne_of_lt (lt_of_lt_of_le (Ν q) d))];exact n
 there:=λb u q _=>⟨u,k b u q⟩
 tups:=λb f q=>by rw[zai (zav q c)];exact q
 frzs:=λb u f q=>by rw[zai (zav q c)];exact q
 tbls:=λb g q=>⟨#[],by rw[zai (zav q c),q];simp⟩
def Un.write(d:Mut (H x))(l:e=x\/H e=Φ (.own x))(k:∀b u,b≠e->h.get? b=Φ u->h'.get? b=Φ u)(f:∃u,h'.get? e=Φ u):Un fs ex H (upd H x o) h h':=by
 have i:∀b,H b=Ψ->b≠x:=λb n z=>by subst z;rw[n]at d;exact d
 have j:∀b,H b=Ψ->b≠e:=λb n z=>by subst z;rcases l with r|r;exact i b n r;rw[n]at r;exact nS r
 have g:∀b u,H b=Φ u->¬Mut (Φ u)->b≠x:=λb u q m z=>by subst z;rw[q]at d;exact m d
 refine⟨λb u q n _ _=>k b u (j b n) q,λb u q n _ _=>⟨u.slots,k b u (j b n) q⟩,λb u q n _=>by rw[zai (i b n)];exact n,λb u q _=>?_,
  λb p q=>by rw[zai (g b _ q λz=>z)];exact q,λb u p q=>by rw[zai (g b _ q λz=>z)];exact q,λb s q=>⟨#[],by rw[zai (g b _ q λz=>z),q];simp⟩⟩
 by_cases c:b=e;subst c;exact f;exact⟨u,k b u c q⟩
end
abbrev trk(h:Heap)(H:Hp):List Addr:=(List.range h.objs.size).filter λa=>(H a).isSome
abbrev hidT(h:Heap)(H:Hp):Heap:=PySem.W.hideAll h (trk h H)
def zkh(h)(H):(hidT h H).objs.size=h.objs.size:=PySem.W.hideAll_size _ _
def zlL(e:h.get? b=Φ o)(n:H b=Ψ):(hidT h H).get? b=Φ o:=PySem.W.hideAll_get _ e λhm=>by have q:(H b).isSome=Δ:=(mem_filter.mp hm).2;rw[n]at q;simp at q
def znW(e:(hidT h H).get? b=Φ o):h.get? b=Φ o/\H b=Ψ:=by have e':h.get? b=Φ o:=PySem.W.of_hideAll (trk h H) e;refine⟨e',?_⟩;cases q:H b with|none=>rfl| some x=>have hm:b∈trk h H:=mem_filter.mpr ⟨mem_range.mpr (Ν e'),by simp[q]⟩;have z:(hidT h H).get? b=Ψ:=PySem.W.hideAll_none (trk h H) hm;rw[z]at e;exact nS e
structure Mod(K:Frag)(mg:Str->Option Ω)(base:Heap):Prop where
 kin:K.In base
 glob:base.Ns mainGlobals mg
 blt:∃mb,base.Ns builtinsNs mb/\∀x:Str,x≠"__name__"->mb x=bootBuiltins x
 nolimit:base.NoLimit
structure Cx where
 prog:Χ
 w:ϒ
 K:Frag
 mg:Str->Option Ω
 base:Heap
 A:ϔ
 N:List Str
 s₀:Ι
 H₀:Hp
 env:Env
 outer:List Env
 stack:List Env
 ex:List Addr
 fn:Str->Bool
 calm:Bool
 pn:List (Addr×Obj)
 xe:Ω->Ι->Prop
abbrev frs(l:List Env):List Addr:=l.filterMap (·.frame)
noncomputable abbrev Cx.fs(X:Cx):List Addr:=frs X.outer
abbrev Vis(sc:Scope)(x:Str):Prop:=sc.names.lookup x=Φ .local\/sc.names.lookup x=Φ .cell\/sc.names.lookup x=Φ .free
abbrev Loc(sc:Scope)(x:Str):Prop:=sc.names.lookup x=Φ .local\/sc.names.lookup x=Φ .cell
abbrev Look(env:Env)(h:Heap)(m:Str->Option Ω)(x:Str)(u:Ω):Prop:=(env.kindOf x=Φ .local/\m x=Φ u)\/((env.kindOf x=Φ .cell\/env.kindOf x=Φ .free)/\∃c,env.cells.lookup x=Φ c/\h.IsCell c (Φ u))
structure Cx.Ok(X:Cx):Prop where
 mod:Mod X.K X.mg X.base
 kind:X.env.scope.kind=.function
 glob:X.env.globals=mainGlobals
 blt:X.env.builtins=builtinsNs
 above:X.s₀.heap.objs.size<=X.env.locals
 inj:∀x y c,X.env.cells.lookup x=Φ c->X.env.cells.lookup y=Φ c->x=y
 has:∀x,(X.env.kindOf x=Φ .cell\/X.env.kindOf x=Φ .free)->∃c,X.env.cells.lookup x=Φ c
 cab:∀x c,X.fn x=Δ->X.env.cells.lookup x=Φ c->X.s₀.heap.objs.size<=c
 hd:X.calm=Δ->X.A.handled=Ψ
 frames:X.A.frames=Φ X.stack
 stk:X.stack=X.outer\/(X.stack=X.env::X.outer/\X.env.frame=Φ X.env.locals)
 exf:∀b∈X.ex,b≠X.env.locals/\∀x c,X.env.cells.lookup x=Φ c->c≠b
 bs:∀b o,X.base.get? b=Φ o->X.s₀.heap.get? b=Φ o/\X.H₀ b=Ψ
 bsz:X.base.objs.size<=X.s₀.heap.objs.size
 noex:∀b o,X.base.get? b=Φ o->b∉X.ex
 exfs:∀b∈X.ex,b∉X.fs
 funs:X.s₀.heap.FunFrames X.base X.outer
 frf:∀b∈X.fs,X.H₀ b=Ψ
structure Inv(X:Cx)(pins:List (Addr×Obj))(σ:List (Option V))(H:Hp)(s:Ι):Prop where
 ok:X.Ok
 os:s.os=X.s₀.os
 bare:AllBare s.gens
 base:Un X.fs X.ex X.H₀ H X.s₀.heap s.heap
 loc:∃m,s.heap.Ns X.env.locals m/\∀(i:Nat)(x:Str)(v:V),X.N[i]?=Φ x->σ[i]?=Φ (Φ v)->Vis X.env.scope x->∃u,RelV v u/\Look X.env s.heap m x u
 cell:∀x c,X.env.cells.lookup x=Φ c->∃v,s.heap.IsCell c v
 free:H X.env.locals=Ψ
 freeC:∀x c,X.env.cells.lookup x=Φ c->H c=Ψ
 pin:∀p∈X.pn++pins,s.heap.get? p.1=Φ p.2/\H p.1=Ψ/\p.1≠X.env.locals/\p.1∉X.fs/\∀v,p.2.data≠.cell v
 hok:HOk X.prog X.w H s.heap
 len:σ.length=X.N.length
section
variable{X:Cx}{pins:List (Addr×Obj)}{σ:List (Option V)}{H H':Hp}{s:Ι}{h':Heap}
def Cx.Ok.nofr(ok:X.Ok)(e:X.base.get? b=Φ o):b∉X.fs:=λa=>by have:=(ok.funs.mem a).1;rw[e]at this;cases this
def Inv.bs(I:Inv X pins σ H s):∀b o,X.base.get? b=Φ o->s.heap.get? b=Φ o/\H b=Ψ:=λb o e=>⟨I.base.keep b o (I.ok.bs b o e).1 (I.ok.bs b o e).2 (I.ok.nofr e) (I.ok.noex b o e),I.base.free b o (I.ok.bs b o e).1 (I.ok.bs b o e).2 (I.ok.noex b o e)⟩
def Inv.bk(I:Inv X pins σ H s):∀b o,X.base.get? b=Φ o->s.heap.get? b=Φ o:=λb o e=>(I.bs b o e).1
def Inv.mod(I:Inv X pins σ H s):Mod X.K X.mg X.base:=I.ok.mod
def Inv.kIn(I:Inv X pins σ H s):X.K.In s.heap:=I.ok.mod.kin.keeps I.bk
def Inv.lt(I:Inv X pins σ H s):X.env.locals<s.heap.objs.size:=let ⟨_,a,_⟩:=I.loc;a.lt
def Inv.sz(I:Inv X pins σ H s):X.s₀.heap.objs.size<=s.heap.objs.size:=le_trans I.ok.above (le_of_lt I.lt)
def Inv.nofs(I:Inv X pins σ H s)(h:s.heap.objs.size<=a):a∉X.fs:=λb=>by let⟨_,o,c,_⟩:=I.ok.funs.mem b;exact absurd (lt_of_lt_of_le (Ν c) (le_trans I.sz h)) (lt_irrefl _)
def Inv.cne(I:Inv X pins σ H s):∀x c,X.env.cells.lookup x=Φ c->c≠X.env.locals:=λx c e z=>by let⟨v,o,d,f⟩:=I.cell x c e;let⟨m,⟨g,h,i,a,b,_⟩,_⟩:=I.loc;rw[z,a]at d;cases d;rw[b]at f;cases f
def Inv.funs(I:Inv X pins σ H s):s.heap.FunFrames X.base X.outer:=by
 have a:∀(l:List Env),(∀b∈frs l,b∈X.fs)->X.s₀.heap.FunFrames X.base l->s.heap.FunFrames X.base l:=by intro l;induction l with|nil=>intro _ _;trivial| cons h r i=>intro g j;let⟨k,⟨L,o,c,m,n,p⟩,q⟩:=j;have d:L∈X.fs:=g L (by unfold frs;rw[List.filterMap_cons,c];exact Υ);let⟨t,e⟩:=I.base.slot L o n (I.ok.frf L d) d λz=>I.ok.exfs L z d;exact⟨k,⟨L,_,c,m,e,p⟩,i (λb f=>g b (by unfold frs;rw[List.filterMap_cons,c];exact Ρ _ f)) q⟩
 exact a X.outer (λ_ f=>f) I.ok.funs
def Inv.stack(I:Inv X pins σ H s):s.heap.FunFrames X.base X.stack:=by rcases I.ok.stk with e|⟨e,a⟩;rw[e];exact I.funs;rw[e];let⟨m,b,_⟩:=I.loc;refine .cons (by rw[I.ok.kind];decide) a b ?_ I.funs;exact Heap.get?_none_of_le (le_trans I.ok.bsz I.ok.above)
def Inv.stkSub(I:Inv X pins σ H s):∀b∈frs X.stack,b∈X.env.locals::X.fs:=λb a=>by rcases I.ok.stk with e|⟨e,c⟩;rw[e]at a;exact Ρ _ a;rw[e]at a;unfold frs at a;rw[List.filterMap_cons,c]at a;exact a
def Inv.stkFree(I:Inv X pins σ H s):∀b∈frs X.stack,H b=Ψ:=λb a=>by rcases mem_cons.mp (I.stkSub b a) with e|a;rw[e];exact I.free;let⟨_,o,c,_⟩:=I.ok.funs.mem a;exact I.base.free b o c (I.ok.frf b a) λz=>I.ok.exfs b z a
def Inv.step{ch:List Addr}(I:Inv X pins σ H s)(f:∀b∈ch,(b∈X.ex\/X.s₀.heap.objs.size<=b)/\b≠X.env.locals/\(∀x c,X.env.cells.lookup x=Φ c->c≠b)/\∀p∈X.pn++pins,p.1≠b)(g:∀b o,b≠X.env.locals->b∉X.fs->b∉ch->s.heap.get? b=Φ o->H b=Ψ->h'.get? b=Φ o)(A:∀b o,b≠X.env.locals->b∈X.fs->b∉ch->s.heap.get? b=Φ o->H b=Ψ->∃T,h'.get? b=Φ {o with slots:=T})(free:∀b o,b∉ch->s.heap.get? b=Φ o->H b=Ψ->H' b=Ψ)(B:∀b o,b∉ch->s.heap.get? b=Φ o->∃G,h'.get? b=Φ G)(J:∀b xs,H b=Φ (.tup xs)->H' b=Φ (.tup xs))(L:∀b o u,H b=Φ (.frz o u)->H' b=Φ (.frz o u))(M:∀b ps,H b=Φ (.tbl ps)->∃N,H' b=Φ (.tbl (ps++N)))(ns:∀m,s.heap.Ns X.env.locals m->h'.Ns X.env.locals m)(hok:HOk X.prog X.w H' h')(hg:AllBare g'):
  Inv X pins σ H' {s with heap:=h',gens:=g',drawn:=d',toks:=t'}:=by
 have O:∀b o,X.s₀.heap.get? b=Φ o->b≠X.env.locals:=λb o e=>ne_of_lt (lt_of_lt_of_le (Ν e) I.ok.above);have t:∀b o,X.s₀.heap.get? b=Φ o->b∉X.ex->b∉ch:=λb o e a C=>by rcases(f b C).1 with z|z;exact a z;exact absurd (lt_of_lt_of_le (Ν e) z) (lt_irrefl _)
 have h:∀x c,X.env.cells.lookup x=Φ c->∀v,s.heap.IsCell c v->h'.IsCell c v:=λx c e v y=>by let⟨o,E,U⟩:=y;have j:c∉ch:=λz=>(f c z).2.2.1 x c e rfl;by_cases hc:c∈X.fs;let⟨T,q⟩:=A c o (I.cne x c e) hc j E (I.freeC x c e);exact⟨_,q,U⟩;exact⟨o,g c o (I.cne x c e) hc j E (I.freeC x c e),U⟩
 refine⟨I.ok,I.os,hg,⟨λb o e n C a=>?_,λb o e n C a=>?_,λb o e n a=>?_,λb o e a=>?_,λb xs e=>J b xs (I.base.tups b xs e),λb o xs e=>L b o xs (I.base.frzs b o xs e),λb ps e=>?_⟩,?_,λx c e=>?_,?_,λx c e=>?_,λp hp=>?_,hok,I.len⟩;exact g b o (O b o e) C (t b o e a) (I.base.keep b o e n C a) (I.base.free b o e n a);let⟨T,w⟩:=I.base.slot b o e n C a;let⟨Y,Q⟩:=A b _ (O b o e) C (t b o e a) w (I.base.free b o e n a);exact⟨Y,Q⟩;let⟨G,w⟩:=I.base.there b o e a;exact free b G (t b o e a) w (I.base.free b o e n a);let⟨G,w⟩:=I.base.there b o e a;exact B b G (t b o e a) w;let⟨m1,w⟩:=I.base.tbls b ps e;let⟨m2,Q⟩:=M b _ w;exact⟨m1++m2,by rw[Q,Array.append_assoc]⟩;let⟨m,hn,hl⟩:=I.loc;refine⟨m,ns m hn,λi x v w Q e3=>?_⟩;let⟨u,r,l⟩:=hl i x v w Q e3;refine⟨u,r,?_⟩;rcases l with l|⟨k,c,e,z⟩;exact .inl l;exact .inr ⟨k,c,e,h x c e _ z⟩;let⟨v,z⟩:=I.cell x c e;exact⟨v,h x c e v z⟩;let⟨m,⟨o,_,_,E,_⟩,_⟩:=I.loc;exact free _ o (λz=>(f _ z).2.1 rfl) E I.free;let⟨v,o,E,U⟩:=I.cell x c e;exact free c o (λz=>(f c z).2.2.1 x c e rfl) E (I.freeC x c e);let⟨e,n,ne,nf,d⟩:=I.pin p hp;have j:p.1∉ch:=λz=>(f p.1 z).2.2.2 p hp rfl;exact⟨g p.1 p.2 ne nf j e n,free p.1 p.2 j e n,ne,nf,d⟩
def Inv.un(I:Inv X pins σ H s)(u:Un X.fs [] H H' s.heap h')(hok:HOk X.prog X.w H' h'):Inv X pins σ H' {s with heap:=h',toks:=t'}:=by let⟨m,⟨o,k,l,g,r⟩,_⟩:=id I.loc;let⟨p,h⟩:=u.any g I.free (by simp);exact I.step (g':=s.gens) (d':=s.drawn) (ch:=[]) (λ_ z=>by cases z) (λb o _ c _ e n=>u.keep b o e n c (by simp)) (λb o _ c _ e n=>u.slot b o e n c (by simp)) (λb o _ e n=>u.free b o e n (by simp)) (λb o _ e=>u.there b o e (by simp)) u.tups u.frzs u.tbls (λq i=>by let⟨t,d,f,a,j⟩:=i;rw[g]at a;cases a;exact⟨_,d,f,h,j⟩) hok I.bare
def Inv.call(I:Inv X pins σ H s)(u:Un (frs X.stack) ch H H' s.heap h')(hok:HOk X.prog X.w H' h')(k:AllBare g')(d:∀b∈ch,(b∈X.ex\/X.s₀.heap.objs.size<=b)/\b≠X.env.locals/\(∀x c,X.env.cells.lookup x=Φ c->c≠b)/\∀p∈X.pn++pins,p.1≠b):
  Inv X pins σ H' {s with heap:=h',gens:=g',drawn:=d',toks:=t'}:=by
 let⟨m,⟨o,v,w,j,r⟩,_⟩:=id I.loc;let⟨y,g⟩:=u.any j I.free λz=>(d _ z).2.1 rfl;exact I.step (ch:=ch) d (λb o g l a e n=>u.keep b o e n (λz=>(mem_cons.mp (I.stkSub b z)).elim g l) a) (λb o _ _ a e n=>u.any e n a) (λb o a e n=>u.free b o e n a) (λb o a e=>u.there b o e a) u.tups u.frzs u.tbls (λA q=>by let⟨B,h,i,f,t⟩:=q;rw[j]at f;cases f;exact⟨_,h,i,g,t⟩) hok k
def Inv.turned(I:Inv X pins σ H s)(k:∀b o,b≠it->s.heap.get? b=Φ o->h'.get? b=Φ o)(g:H it=Ψ)(f:it≠X.env.locals)(h:it∈X.ex\/X.s₀.heap.objs.size<=it)(i:∀x c,X.env.cells.lookup x=Φ c->c≠it)(j:∀p∈X.pn++pins,p.1≠it):Inv X pins σ H {s with heap:=h',toks:=t'}:=by
 have d:∀b u,H b=Φ u->b≠it:=λb u e z=>by rw[z,g]at e;exact nS e
 refine I.step (g':=s.gens) (d':=s.drawn) (ch:=[it]) (λb l=>?_) (λb o _ _ a e _=>k b o (λz=>a (by simp[z])) e) (λb o _ _ a e _=>⟨o.slots,k b o (λz=>a (by simp[z])) e⟩) (λ_ _ _ _ n=>n)
  (λb o a e=>⟨o,k b o (λz=>a (by simp[z])) e⟩) (λ_ _ e=>e) (λ_ _ _ e=>e) (λb B e=>⟨#[],by rw[e];simp⟩) (λm t=>?_) (λb u e=>?_) I.bare
 have e:b=it:=by simpa using l
 subst e;exact⟨h,f,i,j⟩;let⟨o,w,y,A,r⟩:=t;exact⟨o,w,y,k _ o (Ne.symm f) A,r⟩;refine(I.hok b u e).stay (λc v a q=>k c v ?_ q) (λ_ q=>q) λ_ _ q=>q;rcases a with z|z;rw[z];exact d b u e;exact d c _ z
def Inv.tok(I:Inv X pins σ H s)(t):Inv X pins σ H {s with toks:=t}:=I.un (h':=s.heap) (t':=t) Un.refl I.hok
def Inv.kept(I:Inv X pins σ H s)(k:∀b u,s.heap.get? b=Φ u->h'.get? b=Φ u):Inv X pins σ H {s with heap:=h',toks:=t'}:=I.un (Un.kept k) (I.hok.kept k)
def Inv.laid(I:Inv X pins σ H s)(k:∀b u,s.heap.get? b=Φ u->h'.get? b=Φ u)(c:s.heap.objs.size<=a)(new:ObjOk X.prog X.w (upd H a o) h' a o):
 Inv X pins σ (upd H a o) {s with heap:=h',toks:=t'}:=I.un (Un.laid k c (I.hok.fresh c)) (I.hok.laid k c new)
def Inv.write(I:Inv X pins σ H s)(c:Mut (H x))(d:e=x\/H e=Φ (.own x))(k:∀b u,b≠e->s.heap.get? b=Φ u->h'.get? b=Φ u)(a:∃u,h'.get? e=Φ u)(new:ObjOk X.prog X.w (upd H x o) h' x o):Inv X pins σ (upd H x o) {s with heap:=h',toks:=t'}:=I.un (Un.write c d k a) (I.hok.write c d k a new)
def Inv.pins_of(I:Inv X pins σ H s)(h:∀p∈a,s.heap.get? p.1=Φ p.2/\H p.1=Ψ/\p.1≠X.env.locals/\p.1∉X.fs/\∀v,p.2.data≠.cell v):Inv X a σ H s:=⟨I.ok,I.os,I.bare,I.base,I.loc,I.cell,I.free,I.freeC,λp b=>(mem_append.mp b).elim (λz=>I.pin p (mem_append_left _ z)) (h p),I.hok,I.len⟩
def zhm{N:List Str}(hN:N.Nodup){i j:Nat}(a:N[i]?=Φ x)(b:N[j]?=Φ x):i=j:=by let⟨h1,e1⟩:=Ζ.mp a;let⟨h2,e2⟩:=Ζ.mp b;exact(List.getElem_inj hN).mp (e1.trans e2.symm)
def zfq(I:Inv X pins σ H s)(hN:X.N.Nodup)(hi:X.N[i]?=Φ x)(hx:Loc X.env.scope x)(r:RelV v u)(h:∀s',Inv X pins (σ.set i (Φ v)) H s'->(∃a,Heap.SameBut a s.heap s'.heap/\(a=X.env.locals\/X.env.cells.lookup x=Φ a))->Q () s')(hf:X.fn x=Δ\/X.env.scope.names.lookup x=Φ .local:=by first|exact .inl rfl|exact .inr rfl|assumption):wpAny M A (storeName X.env x u) Q E s:=by
 let⟨m,hn,hl⟩:=id I.loc;have hcls:(X.env.scope.kind==.class||(X.env.scope.kind==.module&&X.env.locals != X.env.globals))=Θ:=by rw[I.ok.kind];rfl
 have hiσ:i<σ.length:=by rw[I.len];exact(Ζ.mp hi).1
 have cne:=I.cne;have tracked:∀{a:Addr}{h':Heap},(∃o,s.heap.get? a=Φ o/\H a=Ψ)->Heap.SameBut a s.heap h'->HOk X.prog X.w H h':=λ{a h'} ha hs b ob e=>by let⟨_,_,hfree⟩:=ha;refine(I.hok b ob e).stay (λc w' hc q=>(hs.2 c ?_).trans q) (λ_ q=>q) λ_ _ q=>q;rintro rfl;rcases hc with rfl|hc;rw[hfree]at e;exact nS e;rw[hfree]at hc;exact nS hc
 rcases hx with hk|hk;refine wpAny_storeName_local hk hn (λh' hn' hs=>?_) hcls;let⟨oL,_,_,hoL,_⟩:=id hn;refine h _ ⟨I.ok,I.os,I.bare,⟨λb o e n hb hx=>?_,λb o e n hb hx=>?_,I.base.free,λb o e hx=>?_,I.base.tups,I.base.frzs,I.base.tbls⟩,⟨_,hn',λj y v' e1 e2 e3=>?_⟩,λy c e=>?_,I.free,I.freeC,λp hp=>?_,tracked ⟨oL,hoL,I.free⟩ hs,by simpa using I.len⟩ ⟨_,hs,.inl rfl⟩;exact(hs.2 b (ne_of_lt (lt_of_lt_of_le (Ν e) I.ok.above))).trans (I.base.keep b o e n hb hx);let⟨sl,e1⟩:=I.base.slot b o e n hb hx;exact⟨sl,(hs.2 b (ne_of_lt (lt_of_lt_of_le (Ν e) I.ok.above))).trans e1⟩;let⟨o',e1⟩:=I.base.there b o e hx;exact⟨o',(hs.2 b (ne_of_lt (lt_of_lt_of_le (Ν e) I.ok.above))).trans e1⟩;by_cases hj:j=i;subst hj;rw[hi]at e1;cases e1;rw[getElem?_set_self hiσ]at e2;cases e2;exact⟨u,r,.inl ⟨hk,by simp⟩⟩;rw[getElem?_set_ne (Ne.symm hj)]at e2;let⟨u',r',q⟩:=hl j y v' e1 e2 e3;refine⟨u',r',?_⟩;rcases q with⟨k,e⟩|⟨k,c,e,z⟩;refine .inl ⟨k,?_⟩;have:y≠x:=λe=>hj (zhm hN e1 (e▸hi));simp[this,e];exact .inr ⟨k,c,e,z.sameBut hs (cne y c e)⟩;let⟨w',z⟩:=I.cell y c e;exact⟨w',z.sameBut hs (cne y c e)⟩;let⟨e,n,ne,nf,d⟩:=I.pin p hp;exact⟨(hs.2 p.1 ne).trans e,n,ne,nf,d⟩;have hfn:X.fn x=Δ:=by rcases hf with z|z;exact z;rw[z]at hk;cases hk
 let⟨c,hc⟩:=I.ok.has x (.inl hk);let⟨w',z⟩:=I.cell x c hc;refine wpAny_storeName_cell I.ok.kind hk hc z (λh' hc' hs=>?_);let⟨oc,hoc,hocd⟩:=id z;refine h {s with heap:=h'} ⟨I.ok,I.os,I.bare,⟨λb o e n hb hx=>?_,λb o e n hb hx=>?_,I.base.free,λb o e hx=>?_,I.base.tups,I.base.frzs,I.base.tbls⟩,⟨m,hn.sameBut hs (Ne.symm (cne x c hc)),λj y v' e1 e2 e3=>?_⟩,λy c' e=>?_,I.free,I.freeC,λp hp=>?_,tracked ⟨oc,hoc,I.freeC x c hc⟩ hs,by simpa using I.len⟩ ⟨c,hs,.inr hc⟩;exact(hs.2 b (ne_of_lt (lt_of_lt_of_le (Ν e) (I.ok.cab x c hfn hc)))).trans (I.base.keep b o e n hb hx);let⟨sl,e1⟩:=I.base.slot b o e n hb hx;exact⟨sl,(hs.2 b (ne_of_lt (lt_of_lt_of_le (Ν e) (I.ok.cab x c hfn hc)))).trans e1⟩;let⟨o',e1⟩:=I.base.there b o e hx;exact⟨o',(hs.2 b (ne_of_lt (lt_of_lt_of_le (Ν e) (I.ok.cab x c hfn hc)))).trans e1⟩;by_cases hj:j=i;subst hj;rw[hi]at e1;cases e1;rw[getElem?_set_self hiσ]at e2;cases e2;exact⟨u,r,.inr ⟨.inl hk,c,hc,hc'⟩⟩;rw[getElem?_set_ne (Ne.symm hj)]at e2;let⟨u',r',q⟩:=hl j y v' e1 e2 e3;refine⟨u',r',?_⟩;rcases q with q|⟨k,c',e,z'⟩;exact .inl q;refine .inr ⟨k,c',e,z'.sameBut hs ?_⟩;rintro rfl;exact hj (zhm hN e1 (I.ok.inj _ _ _ e hc▸hi));by_cases hcc:c'=c;subst hcc;exact⟨_,hc'⟩;let⟨w2,z2⟩:=I.cell y c' e;exact⟨w2,z2.sameBut hs hcc⟩;let⟨e,n,ne,nf,d⟩:=I.pin p hp;refine⟨(hs.2 p.1 ?_).trans e,n,ne,nf,d⟩;intro q;rw[q,hoc]at e;have q':oc=p.2:=Option.some.inj e;exact d w' (by rw[<-q'];exact hocd)
def zg7(I:Inv X pins σ H s)(hN:X.N.Nodup)(hi:X.N[i]?=Φ x)(hx:Loc X.env.scope x)(r:RelV v u)(h:∀s',Inv X pins (σ.set i (Φ v)) H s'->Q () s')(hf:X.fn x=Δ\/X.env.scope.names.lookup x=Φ .local:=by first|exact .inl rfl|exact .inr rfl|assumption):wpAny M A (storeName X.env x u) Q E s:=
 zfq I hN hi hx r (λs' I' _=>h s' I') hf
def Inv.call'(I:Inv X pins σ H s)(d:s'.os=s.os)(u:Un (frs X.stack) ch H H' s.heap s'.heap)(hok:HOk X.prog X.w H' s'.heap)(f:AllBare s'.gens)(a:∀b∈ch,(b∈X.ex\/X.s₀.heap.objs.size<=b)/\b≠X.env.locals/\(∀x c,X.env.cells.lookup x=Φ c->c≠b)/\∀p∈X.pn++pins,p.1≠b):Inv X pins σ H' s':=by
 let⟨h',g',d',t',g⟩:=s';have e:g=s.os:=d;subst e;exact I.call (g':=g') (t':=t') (d':=d') u hok f a
end
@[reducible]def XK:=Ω->Option Addr->Hp->Prop
@[reducible]def St:=List (Option V)
@[reducible]def VK:=V->Hp->Prop
@[reducible]def TE:=St->Hp->VK->Prop
@[reducible]def TT:=St->Hp->(Bool->Hp->Prop)->Prop
@[reducible]def TA:=St->Hp->(List V->Hp->Prop)->Prop
structure Ends where
 nx:St->Hp->Prop
 rt:VK
 bk:St->Hp->Prop:=λ_ _=>False
 ct:St->Hp->Prop:=λ_ _=>False
@[reducible]def TS:=Ends->St->Hp->Prop
abbrev EP(X:Cx)(pins:List (Addr×Obj))(σ:St)(Q:VK)(u:Ω)(s':Ι):Prop:=∃v H',Inv X pins σ H' s'/\RelV v u/\Q v H'
abbrev TP(X:Cx)(pins:List (Addr×Obj))(σ:St)(Q:Bool->Hp->Prop)(b:Bool)(s':Ι):Prop:=∃H',Inv X pins σ H' s'/\Q b H'
abbrev AP(X:Cx)(pins:List (Addr×Obj))(σ:St)(Q:List V->Hp->Prop)(us:List Ω)(s':Ι):Prop:=∃vs H',Inv X pins σ H' s'/\Vals vs us/\Q vs H'
abbrev SP(X:Cx)(pins:List (Addr×Obj))(D:Ends)(f:Flow)(s':Ι):Prop:=match f with|.next=>∃σ' H',Inv X pins σ' H' s'/\D.nx σ' H'|.brk=>∃σ' H',Inv X pins σ' H' s'/\D.bk σ' H'|.cont=>∃σ' H',Inv X pins σ' H' s'/\D.ct σ' H'|.ret u=>∃v σ' H',Inv X pins σ' H' s'/\RelV v u/\D.rt v H'
abbrev PE(X:Cx)(e:Expr)(t:TE):Prop:=∀(pins:List (Addr×Obj))(s:Ι)(σ:St)(H:Hp)(Q:VK),Inv X pins σ H s->t σ H Q->wpAny (model X.prog X.w) X.A (eval e X.env) (EP X pins σ Q) X.xe s
abbrev PT(X:Cx)(e:Expr)(t:TT):Prop:=∀(pins:List (Addr×Obj))(s:Ι)(σ:St)(H:Hp)(Q:Bool->Hp->Prop),Inv X pins σ H s->t σ H Q->wpAny (model X.prog X.w) X.A (isTrue e X.env (eval e X.env)) (TP X pins σ Q) X.xe s
abbrev PW(X:Cx)(e:Expr)(t:TT):Prop:=∀(whole:Sem Ω)(pins:List (Addr×Obj))(s:Ι)(σ:St)(H:Hp)(Q:Bool->Hp->Prop),Inv X pins σ H s->t σ H Q->wpAny (model X.prog X.w) X.A (isTrue e X.env whole) (TP X pins σ Q) X.xe s
def PW.pt(h:PW X e t):PT X e t:=h _
abbrev PA(X:Cx)(es:List Expr)(t:TA):Prop:=∀(pos:Pos)(pins:List (Addr×Obj))(s:Ι)(σ:St)(H:Hp)(Q:List V->Hp->Prop),Inv X pins σ H s->t σ H Q->wpAny (model X.prog X.w) X.A (spliced (backTo pos (starEach es X.env))) (AP X pins σ Q) X.xe s
abbrev PS(X:Cx)(st:Stmt)(t:TS):Prop:=∀(pins:List (Addr×Obj))(s:Ι)(σ:St)(H:Hp)(D:Ends),Inv X pins σ H s->t D σ H->wpAny (model X.prog X.w) X.A (exec st X.env) (SP X pins D) X.xe s
abbrev PSs(X:Cx)(st:List Stmt)(t:TS):Prop:=∀(pins:List (Addr×Obj))(s:Ι)(σ:St)(H:Hp)(D:Ends),Inv X pins σ H s->t D σ H->wpAny (model X.prog X.w) X.A (execs st X.env) (SP X pins D) X.xe s
def thn(h:wpAny M A t Q E s)(b:∀a s,Q a s->c a s):wpAny M A t c E s:=Ϥ h b λ_ _ x=>x
section
variable{X:Cx}
def bin(l:PE X a m)(n:PE X b o){R:V->V->Hp->Prop}(I:Inv X c e H s)(h:m e H λx k=>o e k λy d=>R x y d){Q}{f:Ω->Ω->Sem E}(p:∀v u j x y d,Inv X c e d j->RelV x v->RelV y u->R x y d->wpAny (model X.prog X.w) X.A (f v u) Q X.xe j):
  wpAny (model X.prog X.w) X.A (eval a X.env) (λv g=>wpAny (model X.prog X.w) X.A (eval b X.env) (λu i=>wpAny (model X.prog X.w) X.A (f v u) Q X.xe i) X.xe g) X.xe s:=by
 refine thn (l c s e H _ I h) λv q z=>?_;let⟨x,k,r,t,w⟩:=z;refine thn (n c q e k _ r w) λu j z=>?_;let⟨y,d,A,B,C⟩:=z;exact p v u j x y d A t B C
abbrev tVar(i:Nat):TE:=λσ H Q=>∃v,σ[i]?=Φ (Φ v)/\Q v H
abbrev tC(v:V):TE:=λ_ H Q=>Q v H
def zp0(hN:X.N[i]?=Φ x)(hv:Vis X.env.scope x)(hd:(x==("__debug__":Str))=Θ:=by decide)(hcd:(x==("__classdict__":Str))=Θ:=by decide):PE X (.Name x pos) (tVar i):=by intro pins s σ H Q I h;let⟨v,e,h⟩:=h;let⟨m,hn,hl⟩:=I.loc;let⟨u,r,l⟩:=hl i x v hN e hv;have fin:EP X pins σ Q u s:=⟨v,H,I,r,h⟩;rcases l with⟨hk,hm⟩|⟨hk,c,hc,hcell⟩;exact wpAny_Name (wpAny_loadName_local I.ok.kind hk hn hm fin) hd;rcases hk with hk|hk;exact wpAny_Name (wpAny_loadName_cell I.ok.kind hk hc hcell fin) hd;exact wpAny_Name (wpAny_loadName_free I.ok.kind hk hc hcell fin hcd) hd
def zp7:PE X (.Constant (.int i) j pos) (tC (.int i)):=λ_ _ _ H _ I h=>wpAny_Constant_int ⟨.int i,H,I.tok _,⟨_,rfl⟩,h⟩
def zrP:PE X (.Constant (.bool b) j pos) (tC (.bl b)):=λ_ _ _ H _ I h=>Constant_bool ⟨.bl b,H,I,rfl,h⟩
def zp5:PE X (.Constant .none j pos) (tC .non):=λ_ _ _ H _ I h=>Constant_none ⟨.non,H,I,rfl,h⟩
def zp2:PE X (.Constant (.str x) j pos) (tC (.str x)):=λ_ _ _ H _ I h=>Calls.Constant_str ⟨.str x,H,I.tok _,⟨_,rfl⟩,h⟩
abbrev Gl(X:Cx)(x:Str):Prop:=X.env.kindOf x=Φ .globalImplicit
def zdI(I:Inv X pins σ H s)(hg:Gl X x)(hm:X.mg x=Φ u)(h:Q u s)(hd:(x==("__debug__":Str))=Θ:=by decide):wpAny (model X.prog X.w) X.A (eval (.Name x pos) X.env) Q E s:=
 Calls.Name_function_global I.ok.kind hg (Calls.loadGlobal_global (by rw[I.ok.glob];exact I.mod.glob.keeps I.bk) hm h) hd
def zek(I:Inv X pins σ H s)(hg:Gl X x)(hm:X.mg x=Ψ)(hv:bootBuiltins x=Φ u)(h:Q u s)(hn:x≠"__name__":=by decide)(hd:(x==("__debug__":Str))=Θ:=by decide):wpAny (model X.prog X.w) X.A (eval (.Name x pos) X.env) Q E s:=by
 let⟨mb,h1,h2⟩:=I.mod.blt;exact Calls.Name_function_global I.ok.kind hg (Calls.loadGlobal_builtin (by rw[I.ok.glob];exact I.mod.glob.keeps I.bk) hm (by rw[I.ok.blt];exact h1.keeps I.bk) ((h2 x hn).trans hv) h) hd
def znM(hg:Gl X x)(hm:X.mg x=Φ u)(r:RelV v u)(hd:(x==("__debug__":Str))=Θ:=by decide):PE X (.Name x pos) (tC v):=λ_ _ _ H _ I h=>zdI I hg hm ⟨v,H,I,r,h⟩ hd
def znP(hg:Gl X x)(hm:X.mg x=Ψ)(hv:bootBuiltins x=Φ u)(r:RelV v u)(hn:x≠"__name__":=by decide)(hd:(x==("__debug__":Str))=Θ:=by decide):PE X (.Name x pos) (tC v):=λ_ _ _ H _ I h=>zek I hg hm hv ⟨v,H,I,r,h⟩ hn hd
variable{a b:Expr}{ta tb:TE}{pos:Pos}
def RelV.none_iff(r:RelV x v):(v==Ω.none)=decide (x=.non):=by cases x with|non=>cases r;rfl|bl _=>cases r;rfl|int _=>let⟨t,rfl⟩:=r;rfl|str _=>let⟨t,rfl⟩:=r;rfl|byt _=>let⟨t,rfl⟩:=r;rfl|flt _=>let⟨t,rfl⟩:=r;rfl|ref _=>cases r;rfl|ty _=>cases r;rfl
variable{tA tB':TT}{rest:List Expr}
abbrev tAnd(t u:TT):TT:=λσ H Q=>t σ H λc H1=>if c=Δ then u σ H1 Q else Q Θ H1
abbrev tOr(t u:TT):TT:=λσ H Q=>t σ H λc H1=>if c=Δ then Q Δ H1 else u σ H1 Q
abbrev tNot(t:TT):TT:=λσ H Q=>t σ H λc H1=>Q (!c) H1
def znz(ha:PT X a tA):PW X (.BoolOp .And [a] pos) tA:=by intro wh pins s σ H Q I h;refine isTrue_and (thn (ha pins s σ H Q I h) λc s1 e=>?_);cases c with|true=>exact isTrue_and_nil e|false=>exact e
def zpQ(ha:PT X a tA):PW X (.BoolOp .Or [a] pos) tA:=by intro wh pins s σ H Q I h;refine isTrue_or (thn (ha pins s σ H Q I h) λc s1 e=>?_);cases c with|false=>exact isTrue_or_nil e|true=>exact e
def zpR(ha:PT X a tA)(hb:PW X (.BoolOp .And (b::rest) pos) tB'):PW X (.BoolOp .And (a::b::rest) pos) (tAnd tA tB'):=by intro wh pins s σ H Q I h;refine isTrue_and (thn (ha pins s σ H _ I h) λc s1 z=>?_);let⟨H1,I1,q1⟩:=z;cases c with|true=>exact hb wh pins s1 σ H1 Q I1 q1|false=>exact⟨H1,I1,q1⟩
def zrI(ha:PT X a tA)(hb:PW X (.BoolOp .Or (b::rest) pos) tB'):PW X (.BoolOp .Or (a::b::rest) pos) (tOr tA tB'):=by intro wh pins s σ H Q I h;refine isTrue_or (thn (ha pins s σ H _ I h) λc s1 z=>?_);let⟨H1,I1,q1⟩:=z;cases c with|true=>exact⟨H1,I1,q1⟩|false=>exact hb wh pins s1 σ H1 Q I1 q1
def zpT(ha:PT X a tA):PT X (.UnaryOp .Not a pos) (tNot tA):=by intro pins s σ H Q I h;exact isTrue_not (ha pins s σ H (λc H1=>Q (!c) H1) I h)
abbrev zrt(ta tb:TE):TE:=λσ H Q=>ta σ H λx H1=>∃c,x=.bl c/\if c=Δ then tb σ H1 Q else Q (.bl Θ) H1
abbrev tOrV(ta tb:TE):TE:=λσ H Q=>ta σ H λx H1=>∃c,x=.bl c/\if c=Δ then Q (.bl Δ) H1 else tb σ H1 Q
abbrev zrq(ta:TE):TE:=λσ H Q=>ta σ H λx H1=>∃c,x=.bl c/\Q (.bl (!c)) H1
def zmm(h:PE X a t):PE X (.BoolOp op [a] pos) t:=λpins s σ H Q I hw=>BoolOp_one (h pins s σ H Q I hw)
def zqb(ha:PE X a ta)(hb:PE X (.BoolOp .And (b::rest) pos) tb):PE X (.BoolOp .And (a::b::rest) pos) (zrt ta tb):=by intro pins s σ H Q I h;refine BoolOp_and (thn (ha pins s σ H _ I h) λv s1 z=>?_);let⟨x,H1,I1,r1,q1⟩:=z;let⟨c,rfl,q1⟩:=q1;cases r1;refine ϟ ?_;cases c with|true=>exact hb pins s1 σ H1 Q I1 q1|false=>exact⟨.bl Θ,H1,I1,rfl,q1⟩
def zrL(ha:PE X a ta)(hb:PE X (.BoolOp .Or (b::rest) pos) tb):PE X (.BoolOp .Or (a::b::rest) pos) (tOrV ta tb):=by intro pins s σ H Q I h;refine BoolOp_or (thn (ha pins s σ H _ I h) λv s1 z=>?_);let⟨x,H1,I1,r1,q1⟩:=z;let⟨c,rfl,q1⟩:=q1;cases r1;refine ϟ ?_;cases c with|false=>exact hb pins s1 σ H1 Q I1 q1|true=>exact⟨.bl Δ,H1,I1,rfl,q1⟩
def zp4(ha:PE X a ta):PE X (.UnaryOp .Not a pos) (zrq ta):=by intro pins s σ H Q I h;refine UnaryOp_ (thn (ha pins s σ H _ I h) λv s1 z=>?_);let⟨x,H1,I1,r1,q1⟩:=z;let⟨c,rfl,q1⟩:=q1;cases r1;exact not_of (ϟ ⟨.bl (!c),H1,I1,rfl,q1⟩)
abbrev tIf(t:TT)(ta tb:TE):TE:=λσ H Q=>t σ H λc H1=>if c=Δ then ta σ H1 Q else tb σ H1 Q
def zlu(hc:PT X c tA)(ha:PE X a ta)(hb:PE X b tb):PE X (.IfExp c a b pos) (tIf tA ta tb):=by intro pins s σ H Q I h;refine wpAny_IfExp (thn (hc pins s σ H _ I h) λd s1 z=>?_);let⟨H1,I1,q1⟩:=z;cases d with|true=>exact ha pins s1 σ H1 Q I1 q1|false=>exact hb pins s1 σ H1 Q I1 q1
end
abbrev SqL(K:Frag)(H:Hp)(a:Addr)(xs:List V):Prop:=
 Rd H a (.lst xs)\/
  ∃(o:Obj) (its:Array Ω) (n:Nat),K.lookup a=Φ o/\o.cls=.type "list"/\o.dict=Ψ/\o.data=.seq its n/\its.size<=sizeLine/\Vals xs its.toList
abbrev SqT(K:Frag)(H:Hp)(a:Addr)(xs:List V):Prop:=
 Rd H a (.tup xs)\/
  ∃(o:Obj) (its:Array Ω) (n:Nat),K.lookup a=Φ o/\o.cls=.type "tuple"/\o.data=.seq its n/\its.size<=sizeLine/\Vals xs its.toList
abbrev absV:Ω->Option V
 |.none=>Φ .non|.bool b=>Φ (.bl b)|.int i _=>Φ (.int i)|.str x _=>Φ (.str x)|.bytes b _=>Φ (.byt b)|.float b _=>Φ (.flt b)|.ref a=>Φ (.ref a)|.type n=>Φ (.ty n)|_=>Ψ
def RelV.abs(r:RelV x u):absV u=Φ x:=by cases x with|non=>cases r;rfl|bl _=>cases r;rfl|int _=>let⟨t,rfl⟩:=r;rfl|str _=>let⟨t,rfl⟩:=r;rfl|byt _=>let⟨t,rfl⟩:=r;rfl|flt _=>let⟨t,rfl⟩:=r;rfl|ref _=>cases r;rfl|ty _=>cases r;rfl
def RelV.inj(r:RelV x u)(q:RelV y u):x=y:=Option.some.inj (r.abs.symm.trans q.abs)
def Vals.inj{xs ys:List V}{us:List Ω}(h:Vals xs us)(k:Vals ys us):xs=ys:=by induction h generalizing ys with|nil=>cases k;rfl|cons r t i=>cases k with|cons a b=>rw[r.inj a,i b]
section
variable{X:Cx}{pins:List (Addr×Obj)}{σ:St}{H:Hp}{s:Ι}{a:Addr}{xs ys:List V}
def SqL.of{K}(h:H a=Φ (.lst xs)):SqL K H a xs:=.inl (.inl h)
def SqT.of{K}(h:H a=Φ (.tup xs)):SqT K H a xs:=.inl (.inl h)
def Inv.list(I:Inv X pins σ H s)(h:SqL X.K H a xs):∃its:List Ω,Vals xs its/\PlainL s.heap a its.toArray/\xs.length<=sizeLine:=by rcases h with h|⟨o,its,n,b,c,d,f,g,r⟩;let⟨z,its,n,r,e⟩:=h.ok I.hok;exact⟨its,r,⟨_,n,e,rfl,rfl,rfl⟩,z⟩;refine⟨its.toList,r,⟨o,n,I.kIn a o b,c,d,by simpa using f⟩,?_⟩;have e:=r.length;simp![length_toList]at e;lia
def Inv.tuple(I:Inv X pins σ H s)(h:SqT X.K H a xs):∃its:List Ω,Vals xs its/\IsTup s.heap a its.toArray/\xs.length<=sizeLine:=by rcases h with h|⟨o,its,n,b,c,d,f,r⟩;let⟨z,its,r,p⟩:=h.ok I.hok;exact⟨its,r,p,z⟩;refine⟨its.toList,r,⟨o,I.kIn a o b,c,n,by simpa using d⟩,?_⟩;have e:=r.length;simp![length_toList]at e;lia
def Inv.list_inj(I:Inv X pins σ H s)(h:SqL X.K H a xs)(h':SqL X.K H a ys):xs=ys:=by
 let⟨c,r,⟨o,n,e,_,_,d⟩,_⟩:=I.list h;let⟨b,i,⟨k,l,f,_,_,g⟩,_⟩:=I.list h';rw[e]at f;cases f;rw[d]at g;injection g with j _;have:c=b:=by simpa using congrArg Array.toList j
 subst this;exact r.inj i
def Inv.tuple_inj(I:Inv X pins σ H s)(h:SqT X.K H a xs)(h':SqT X.K H a ys):xs=ys:=by
 let⟨c,r,⟨o,e,_,n,d⟩,_⟩:=I.tuple h;let⟨b,i,⟨k,f,_,l,g⟩,_⟩:=I.tuple h';rw[e]at f;cases f;rw[d]at g;injection g with j _;have:c=b:=by simpa using congrArg Array.toList j
 subst this;exact r.inj i
end
noncomputable abbrev Cx.wish(X:Cx)(E:Ω->Ι->Prop):Cx:={X with xe:=E}
noncomputable abbrev Cx.nox(X:Cx):Cx:=X.wish λ_ _=>False
def Cx.Ok.wish{X:Cx}(ok:X.Ok)(E):(X.wish E).Ok:=⟨ok.mod,ok.kind,ok.glob,ok.blt,ok.above,ok.inj,ok.has,ok.cab,ok.hd,ok.frames,ok.stk,ok.exf,ok.bs,ok.bsz,ok.noex,ok.exfs,ok.funs,ok.frf⟩
def Cx.Ok.unwish{X:Cx}(ok:(X.wish E).Ok):X.Ok:=⟨ok.mod,ok.kind,ok.glob,ok.blt,ok.above,ok.inj,ok.has,ok.cab,ok.hd,ok.frames,ok.stk,ok.exf,ok.bs,ok.bsz,ok.noex,ok.exfs,ok.funs,ok.frf⟩
section
variable{X:Cx}{pins:List (Addr×Obj)}{σ:St}{H:Hp}{s:Ι}{E:Ω->Ι->Prop}
def Inv.wish(I:Inv X pins σ H s)(E):Inv (X.wish E) pins σ H s:=⟨I.ok.wish E,I.os,I.bare,I.base,I.loc,I.cell,I.free,I.freeC,I.pin,I.hok,I.len⟩
def Inv.unwish(I:Inv (X.wish E) pins σ H s):Inv X pins σ H s:=⟨I.ok.unwish,I.os,I.bare,I.base,I.loc,I.cell,I.free,I.freeC,I.pin,I.hok,I.len⟩
def SP.unwish(h:SP (X.wish E) pins D f s'):SP X pins D f s':=by cases f with|next=>let⟨a,b,I,q⟩:=h;exact⟨a,b,I.unwish,q⟩|brk=>let⟨a,b,I,q⟩:=h;exact⟨a,b,I.unwish,q⟩|cont=>let⟨a,b,I,q⟩:=h;exact⟨a,b,I.unwish,q⟩|ret u=>let⟨v,a,b,I,r,q⟩:=h;exact⟨v,a,b,I.unwish,r,q⟩
def PSs.nox{st}(h:PSs X.nox st t):PSs X st t:=λpins s σ H D I a=>Ϥ (h pins s σ H D (I.wish _) a) (λ_ _ q=>q.unwish) λ_ _ z=>False.elim z
end
section
variable{X:Cx}{st:Stmt}{rest:List Stmt}{t u:TS}{e:Expr}{te:TE}{pos:Pos}
abbrev zrr:TS:=λD σ H=>D.nx σ H
abbrev tSeq(t u:TS):TS:=λD σ H=>t {D with nx:=u D} σ H
def znF:PSs X [] zrr:=λ_ _ σ H _ I h=>wpAny_execs_nil ⟨σ,H,I,h⟩
def zaY(h1:PS X st t)(h2:PSs X rest u):PSs X (st::rest) (tSeq t u):=by intro pins s σ H D I h;refine wpAny_execs_cons (thn (h1 pins s σ H {D with nx:=u D} I h) λf s1 q=>?_);cases f with| next=>let⟨σ',H',I',q⟩:=q;exact h2 pins s1 σ' H' D I' q|ret v=>exact q|brk=>exact q|cont=>exact q
def Inv.quiet(I:Inv X a b H s):interactive X.env=Θ:=by simp[interactive,I.ok.kind]
abbrev zrs(te:TE):TS:=λD σ H=>te σ H λ_ H1=>D.nx σ H1
def znH(he:PE X e te)(hs:swapsWith e Ψ pos.line X.env=pure Θ:=by rfl):PS X (.Expr e pos) (zrs te):=by intro pins s σ H D I h;exact wpAny_Expr_any (thn (he pins s σ H _ I h) λv s1 z=>(by let⟨x,H1,I1,r1,q1⟩:=z;exact ⟨σ,H1,I1,q1⟩)) I.quiet hs
abbrev tRet(te:TE):TS:=λD σ H=>te σ H D.rt
def zpU(he:PE X e te):PS X (.Return (Φ e) pos) (tRet te):=by intro pins s σ H D I h;exact wpAny_Return_some (thn (he pins s σ H _ I h) λv s1 z=>(by let⟨x,H1,I1,r1,q1⟩:=z;exact ⟨x,σ,H1,I1,r1,q1⟩))
abbrev tIfS(c:TT)(t u:TS):TS:=λD σ H=>c σ H λb H1=>if b=Δ then t D σ H1 else u D σ H1
def zrJ(hc:PT X c tc)(ha:PSs X a t)(hb:PSs X b u):PS X (.If c a b pos) (tIfS tc t u):=by intro pins s σ H D I h;refine wpAny_If (thn (hc pins s σ H _ I h) λd s1 z=>?_);let⟨H1,I1,q1⟩:=z;cases d with|true=>exact ha pins s1 σ H1 D I1 q1|false=>exact hb pins s1 σ H1 D I1 q1
end
@[reducible]def TG:=V->St->Hp->(St->Hp->Prop)->Prop
@[reducible]def TGs:=List V->St->Hp->(St->Hp->Prop)->Prop
abbrev PG(X:Cx)(target:Expr)(t:TG):Prop:=
 ∀(pins:List (Addr×Obj))(s:Ι)(σ:St)(H:Hp)(v:V)(u:Ω)(Q:St->Hp->Prop),Inv X pins σ H s->RelV v u->t v σ H Q->
  wpAny (model X.prog X.w) X.A (assign target X.env u) (λ_ s'=>∃σ' H',Inv X pins σ' H' s'/\Q σ' H') X.xe s
abbrev PGs(X:Cx)(ts:List Expr)(t:TGs):Prop:=
 ∀(pins:List (Addr×Obj))(s:Ι)(σ:St)(H:Hp)(vs:List V)(us:List Ω)(Q:St->Hp->Prop),Inv X pins σ H s->Vals vs us->t vs σ H Q->
  wpAny (model X.prog X.w) X.A (assignInOrder ((assignEach ts X.env).map (·.2)) us) (λ_ s'=>∃σ' H',Inv X pins σ' H' s'/\Q σ' H') X.xe s
@[reducible]def TSet:=V->V->V->Hp->(Hp->Prop)->Prop
abbrev PSet(X:Cx)(t:TSet):Prop:=
 ∀(pins:List (Addr×Obj))(s:Ι)(σ:St)(H:Hp)(o i v:V)(ov iv u:Ω)(Q:Hp->Prop),Inv X pins σ H s->RelV o ov->RelV i iv->RelV v u->t o i v H Q->
  wpAny (model X.prog X.w) X.A (setItem ov iv u) (λ_ s'=>∃H',Inv X pins σ H' s'/\Q H') X.xe s
section
variable{X:Cx}{pos:Pos}
abbrev zkp(i:Nat):TG:=λv σ H Q=>Q (σ.set i (Φ v)) H
def zju(hN:X.N.Nodup)(hi:X.N[i]?=Φ x)(hx:Loc X.env.scope x)(hf:X.fn x=Δ\/X.env.scope.names.lookup x=Φ .local:=by first|exact .inl rfl|exact .inr rfl|assumption):PG X (.Name x pos) (zkp i):=by intro pins s σ H v u Q I r h;exact wpAny_assign_Name (zg7 I hN hi hx r (λs' I'=>⟨_,H,I',h⟩) hf)
abbrev gNil:TGs:=λvs σ H Q=>vs=[]/\Q σ H
abbrev zsa(t:TG)(u:TGs):TGs:=λvs σ H Q=>∃v r,vs=v::r/\t v σ H λσ' H'=>u r σ' H' Q
def znK:PGs X [] gNil:=by intro pins s σ H vs us Q I r h;let⟨e,h⟩:=h;subst e;cases r;exact assignInOrder_nil ⟨σ,H,I,h⟩
def zlp(h1:PG X e t)(h2:PGs X es u)(hs:(assignEach (e::es) X.env).map (·.2)=assign e X.env::(assignEach es X.env).map (·.2):=by rfl):PGs X (e::es) (zsa t u):=by
 intro pins s σ H vs us Q I r h;let⟨v,vr,e1,h⟩:=h;subst e1;cases r with| cons r rr=>rw[hs];refine assignInOrder_cons (thn (h1 pins s σ H _ _ _ I r h) λ_ s1 z=>?_);let⟨σ1,H1,I1,q1⟩:=z;exact h2 pins s1 σ1 H1 _ _ Q I1 rr q1
abbrev gTup(K:Frag)(n:Nat)(t:TGs):TG:=λv σ H Q=>∃a xs,v=.ref a/\SqT K H a xs/\xs.length=n/\t xs σ H Q
def zpZ(hc:X.calm=Δ)(h:PGs X es t)(hn:(assignEach es X.env).length=n:=by rfl)(hst:(assignEach es X.env).findIdx? (·.1)=Ψ:=by rfl):PG X (.Tuple es k pos) (gTup X.K n t):=by
 intro pins s σ H v u Q I r hw;let⟨a,xs,e1,hq,hl,hw⟩:=hw;subst e1;cases r;let⟨its,rv,ht,hz⟩:=I.tuple hq;refine assign_Tuple_tuple (I.ok.hd hc) ht (by simp[hn,<-hl,rv.length]) hst λh' hx=>?_;have I1:Inv X pins σ H {s with heap:=h'}:=I.kept (t':=s.toks) λb o e=>hx b o (ne_of_lt (Ν e)) e;exact h pins _ σ H xs _ Q I1 (by simpa using rv) hw
abbrev tAsg(te:TE)(g:TG):TS:=λD σ H=>te σ H λx H1=>g x σ H1 D.nx
def zpX(he:PE X e te)(hg:PG X tg g)(hs:swapsWithSole [tg] e pos.line X.env=pure Θ:=by rfl)(hw:swappedStores [tg] e X.env=pure Ψ:=by rfl)(h1:(assignEach [tg] X.env).map (·.2)=[assign tg X.env]:=by rfl):PS X (.Assign [tg] e pos) (tAsg te g):=by
 intro pins s σ H D I h;refine wpAny_Assign_stores (thn (he pins s σ H _ I h) λv s1 z=>?_) hs hw;let⟨x,H1,I1,r1,q1⟩:=z;rw[h1];exact thn (hg pins s1 σ H1 x v _ I1 r1 q1) λ_ s2 q=>q
def zml(hN:X.N.Nodup)(hi:X.N[i]?=Φ x)(hx:Loc X.env.scope x)(he:PE X e te)(hs:swapsWith e (Φ (.Name x pos')) pos.line X.env=pure Θ:=by rfl)(hf:X.fn x=Δ\/X.env.scope.names.lookup x=Φ .local:=by first|exact .inl rfl|exact .inr rfl|assumption):
  PS X (.Assign [.Name x pos'] e pos) (tAsg te (zkp i)):=by
 intro pins s σ H D I h;refine wpAny_Assign_Name (thn (he pins s σ H _ I h) λv s1 z=>?_) hs;let⟨y,H1,I1,r1,q1⟩:=z;exact zg7 I1 hN hi hx r1 (λs2 I2=>⟨_,H1,I2,q1⟩) hf
end
structure It where
 go:Nat->Hp->Prop
 yld:Nat->Hp->V->Hp->Prop
 stop:Nat->Hp->Prop
abbrev FpOk(X:Cx)(pins:List (Addr×Obj))(H:Hp)(b:Addr):Prop:=H b=Ψ/\b≠X.env.locals/\b∉X.fs/\(b∈X.ex\/X.s₀.heap.objs.size<=b)/\(∀x c,X.env.cells.lookup x=Φ c->c≠b)/\∀p∈X.pn++pins,p.1≠b
def Inv.fpOk(I:Inv X a h H s)(d:s.heap.objs.size<=b)(f:H' b=Ψ):FpOk X a H' b:=by refine⟨f,ne_of_gt (lt_of_lt_of_le I.lt d),I.nofs d,.inr (le_trans I.sz d),λx c e z=>?_,λp g z=>?_⟩;let⟨v,q⟩:=I.cell x c e;exact absurd (lt_of_lt_of_le q.lt (by rw[z];exact d)) (lt_irrefl _);exact absurd (lt_of_lt_of_le (Ν (I.pin p g).1) (by rw[z];exact d)) (lt_irrefl _)
structure Turn(P:Χ)(w:ϒ)(K:Frag)(tg:Expr)(J:It)(fp:List Addr)(it:Addr)(tn:Nat->Heap->Prop):Prop where
 mem:it∈fp
 obj:∀i h,tn i h->∀b∈fp,∃o,h.get? b=Φ o/\∀v,o.data≠.cell v
 keep:∀i h h',tn i h->(∀b∈fp,∀o,h.get? b=Φ o->h'.get? b=Φ o)->tn i h'
 item:∀(X:Cx),X.prog=P->X.w=w->X.K=K->X.calm=Δ->∀(i:Nat)(pins:List (Addr×Obj))(s:Ι)(σ:St)(H:Hp)(E:Ω->Ι->Prop),Inv X pins σ H s->(∀b∈fp,FpOk X pins H b)->tn i s.heap->J.go i H->
  wpAny (model P w) X.A (pyNext (.ref it)) (λr s1=>∃u,r=Φ u/\
   wpAny (model P w) X.A (letOwnedTupleGo tg (.ref it) u) (λ_ s2=>∃x H',Inv X pins σ H' s2/\RelV x u/\J.yld i H x H'/\tn (i+1) s2.heap/\∀b∈fp,H' b=Ψ) E s1) E s
 done:∀(X:Cx),X.prog=P->X.w=w->X.K=K->X.calm=Δ->∀(i:Nat)(pins:List (Addr×Obj))(s:Ι)(σ:St)(H:Hp)(E:Ω->Ι->Prop),Inv X pins σ H s->(∀b∈fp,FpOk X pins H b)->tn i s.heap->J.stop i H->
  wpAny (model P w) X.A (pyNext (.ref it)) (λr s1=>r=Ψ/\Inv X pins σ H s1) E s
 self:∀(A:ϔ)(i:Nat)(s:Ι)(Q:Ω->Ι->Prop)(E:Ω->Ι->Prop),tn i s.heap->Q (.ref it) s->wpAny (model P w) A (pyIter (.ref it)) Q E s
@[reducible]def TI:=St->Hp->(It->Hp->Prop)->Prop
abbrev PIE(X:Cx)(pins:List (Addr×Obj))(σ:St)(tg:Expr)(R:It->Hp->Prop)(itv:Ω)(s2:Ι):Prop:=∃(it:Addr) (fp:List Addr) (tn:Nat->Heap->Prop) (J:It) (H':Hp),itv=.ref it/\Inv X pins σ H' s2/\Turn X.prog X.w X.K tg J fp it tn/\tn 0 s2.heap/\(∀b∈fp,FpOk X pins H' b)/\R J H'
abbrev PI(X:Cx)(tg iter:Expr)(wi:TI):Prop:=
 ∀(pins:List (Addr×Obj))(s:Ι)(σ:St)(H:Hp)(R:It->Hp->Prop),Inv X pins σ H s->wi σ H R->
  wpAny (model X.prog X.w) X.A (eval iter X.env) (λv s1=>wpAny (model X.prog X.w) X.A (pyIter v) (PIE X pins σ tg R) X.xe s1) X.xe s
def zoi(b:s.heap.get? it=Φ o)(c:o.cls=.type n)(hd:o.data=.fields vs)(d:["enumerate","zip","dict_itemiterator","dict_reverseitemiterator","odict_iterator","itertools.zip_longest","itertools.pairwise"].contains n=Θ)(a:Q () s):wpAny M A (letOwnedTupleGo e (.ref it) u) Q E s:=by
 unfold letOwnedTupleGo;cases e<;>first
  |exact Λ a
  |(cases u<;>first
   |exact Λ a
   | (refine Ξ (wpAny_load b ?_)
      rw[c,hd];show wpAny M A (if(["enumerate","zip","dict_itemiterator","dict_reverseitemiterator","odict_iterator","itertools.zip_longest","itertools.pairwise"].contains n&&vs[0]?==Φ (rawInt _))=Δ then _ else _) Q E s;rw[if_neg (by intro h;rw[d,Bool.false_and]at h;exact nB h)];exact Λ a))
abbrev Itl(K:Frag)(a:Addr):It:=⟨λi H=>∃xs x,SqL K H a xs/\xs[i]?=Φ x,λi H x H'=>H'=H/\∀xs,SqL K H a xs->xs[i]?=Φ x,λi H=>∃xs,SqL K H a xs/\xs.length<=i⟩
abbrev Itt(K:Frag)(a:Addr):It:=⟨λi H=>∃xs x,SqT K H a xs/\xs[i]?=Φ x,λi H x H'=>H'=H/\∀xs,SqT K H a xs->xs[i]?=Φ x,λi H=>∃xs,SqT K H a xs/\xs.length<=i⟩
abbrev Itr(lo:Int)(n:Nat):It:=⟨λi _=>i<n,λi H x H'=>H'=H/\x=.int (lo+i),λi _=>n<=i⟩
def ziR{P:Χ}{w:ϒ}{K:Frag}{tg:Expr}(a it:Addr):Turn P w K tg (Itl K a) [it] it (λi h=>h.IsListIter it a i) where
 mem:=by simp
 obj:=λi h st b hb=>by
  have e:b=it:=by simpa using hb
  subst e;let⟨o,e,c,d⟩:=st;exact⟨o,e,λv z=>by rw[d]at z;cases z⟩
 keep:=λi h h' st k=>st.at λo e=>k it (by simp) o e
 item:=by intro X hP hw hK hc i pins s σ H E I hf st hg;subst hP hw hK;let⟨xs,x,hq,hx⟩:=hg;let⟨its,rv,p,hz⟩:=I.list hq;let⟨u,hu,ru⟩:=rv.get hx;let⟨f0,f1,f2,f3,f4,f5⟩:=hf it (by simp);refine wpAny_pyNext_list_item st p.isList (x:=u) (by simpa using hu) λh' st' sb=>?_;have I1:Inv X pins σ H {s with heap:=h'}:=I.turned (t':=s.toks) (λb o hb e=>(sb.2 b hb).trans e) f0 f1 f3 f4 f5;let⟨o,e,c,d⟩:=id st';exact⟨u,rfl,zoi (s:={s with heap:=h'}) e c d (by decide) ⟨x,H,I1,ru,⟨rfl,λys hy=>by rw[I.list_inj hy hq];exact hx⟩,st',λb hb=>(hf b hb).1⟩⟩
 done:=by intro X hP hw hK hc i pins s σ H E I hf st hg;subst hP hw hK;let⟨xs,hq,hx⟩:=hg;let⟨its,rv,p,hz⟩:=I.list hq;let⟨f0,f1,f2,f3,f4,f5⟩:=hf it (by simp);have hl:=rv.length;exact wpAny_pyNext_list_end (I.ok.hd hc) st p.isList (by simp;lia) λh' eb=>⟨rfl,I.turned (t':=s.toks) (λb o hb e=>eb b o hb e) f0 f1 f3 f4 f5⟩
 self:=λ_ _ _ _ _ st h=>wpAny_pyIter_listiter st h
def zhR{P:Χ}{w:ϒ}{K:Frag}{tg:Expr}(a it:Addr):Turn P w K tg (Itt K a) [it] it (λi h=>h.IsTupleIter it a i) where
 mem:=by simp
 obj:=λi h st b hb=>by
  have e:b=it:=by simpa using hb
  subst e;let⟨o,e,c,d⟩:=st;exact⟨o,e,λv z=>by rw[d]at z;cases z⟩
 keep:=λi h h' st k=>st.at λo e=>k it (by simp) o e
 item:=by intro X hP hw hK hc i pins s σ H E I hf st hg;subst hP hw hK;let⟨xs,x,hq,hx⟩:=hg;let⟨its,rv,p,hz⟩:=I.tuple hq;let⟨u,hu,ru⟩:=rv.get hx;let⟨f0,f1,f2,f3,f4,f5⟩:=hf it (by simp);refine wpAny_pyNext_tuple_item st (show s.heap.IsTuple a its.toArray from p) (x:=u) (by simpa using hu) λh' st' sb=>?_;have I1:Inv X pins σ H {s with heap:=h'}:=I.turned (t':=s.toks) (λb o hb e=>(sb.2 b hb).trans e) f0 f1 f3 f4 f5;let⟨o,e,c,d⟩:=id st';exact⟨u,rfl,zoi (s:={s with heap:=h'}) e c d (by decide) ⟨x,H,I1,ru,⟨rfl,λys hy=>by rw[I.tuple_inj hy hq];exact hx⟩,st',λb hb=>(hf b hb).1⟩⟩
 done:=by intro X hP hw hK hc i pins s σ H E I hf st hg;subst hP hw hK;let⟨xs,hq,hx⟩:=hg;let⟨its,rv,p,hz⟩:=I.tuple hq;let⟨f0,f1,f2,f3,f4,f5⟩:=hf it (by simp);have hl:=rv.length;exact wpAny_pyNext_tuple_end (I.ok.hd hc) st (show s.heap.IsTuple a its.toArray from p) (by simp;lia) λh' eb=>⟨rfl,I.turned (t':=s.toks) (λb o hb e=>eb b o hb e) f0 f1 f3 f4 f5⟩
 self:=λ_ _ _ _ _ st h=>wpAny_pyIter_tupleiter st h
def zhS{P:Χ}{w:ϒ}{K:Frag}{tg:Expr}(it:Addr)(lo:Int)(n:Nat):Turn P w K tg (Itr lo n) [it] it (λi h=>IsRangeIter h it (lo+(i:Nat)*1) ((n:Int)-(i:Nat)) 1) where
 mem:=by simp
 obj:=λi h st b hb=>by
  have e:b=it:=by simpa using hb
  subst e;exact⟨_,st,λv z=>by have z':Data.fields _=Data.cell v:=z;cases z'⟩
 keep:=λi h h' st k=>k it (by simp) _ st
 item:=by intro X hP hw hK hc i pins s σ H E I hf st hg;subst hP hw hK;let⟨f0,f1,f2,f3,f4,f5⟩:=hf it (by simp);have W:=Walks.range (prog:=X.prog) (w:=X.w) (I.ok.hd hc) it lo 1 n;refine W.item i s _ _ hg st λv h' tk hv st' kk=>?_;let⟨t,rfl⟩:=hv;have I1:Inv X pins σ H {s with heap:=h',toks:=tk}:=I.turned (λb o hb e=>kk b o (by simpa using hb) e) f0 f1 f3 f4 f5;refine⟨_,rfl,zoi (s:={s with heap:=h',toks:=tk}) (n:="range_iterator") st' rfl rfl (by decide) ⟨.int (lo+i),H,I1,⟨t,?_⟩,⟨rfl,rfl⟩,st',λb hb=>(hf b hb).1⟩⟩;rw[Int.mul_one]
 done:=by intro X hP hw hK hc i pins s σ H E I hf st hg;subst hP hw hK;let⟨f0,f1,f2,f3,f4,f5⟩:=hf it (by simp);exact wpAny_pyNext_range_end (I.ok.hd hc) st (by have:n<=i:=hg;lia) λh' eb=>⟨rfl,I.turned (t':=s.toks) (λb o hb e=>eb b o hb e) f0 f1 f3 f4 f5⟩
 self:=λ_ _ _ _ _ st h=>wpAny_pyIter_rangeiter st h
section
variable{X:Cx}{tg:Expr}
def zhj{lo hi}(I:Inv X pins σ H s)(h1:-(2^62)<=lo)(h2:lo<2^62)(h3:-(2^62)<=hi)(h4:hi<2^62)(q:R (Itr lo (hi-lo).toNat) H):wpAny (model X.prog X.w) X.A (pyIter (.ref s.heap.objs.size)) (PIE X pins σ tg R) E {s with heap:=s.heap.push {cls:=.type "range",data:=.fields #[.int lo t,.int hi u,.int 1 v]},toks:=tk}:=by
 refine wpAny_pyIter_range (IsRange.new ..) (small_one h1 h2 h3 h4) ?_;have I1:Inv X pins σ H {s with heap:=s.heap.push {cls:=.type "range",data:=.fields #[.int lo t,.int hi u,.int 1 v]},toks:=tk}:=I.kept λb o e=>Α _ e;refine⟨(s.heap.push {cls:=.type "range",data:=.fields #[.int lo t,.int hi u,.int 1 v]}).objs.size,[(s.heap.push {cls:=.type "range",data:=.fields #[.int lo t,.int hi u,.int 1 v]}).objs.size],_,_,H,rfl,
  I1.kept (t':=tk) λb o e=>Α _ e,zhS _ lo (hi-lo).toNat,?_,λb hb=>?_,q⟩
 have e1:lo+((0:Nat):Int)*1=lo:=by simp
 have e2:(((hi-lo).toNat:Nat):Int)-((0:Nat):Int)=Builtin.Range.rangeSize lo hi 1:=by rw[rangeSize_one];split<;>lia
 show IsRangeIter _ _ (lo+((0:Nat):Int)*1) ((((hi-lo).toNat:Nat):Int)-((0:Nat):Int)) 1;rw[e1,e2];exact Μ _ rfl;have e:b=(s.heap.push {cls:=.type "range",data:=.fields #[.int lo t,.int hi u,.int 1 v]}).objs.size:=by simpa using hb
 subst e;exact I1.fpOk (le_refl _) (I1.hok.fresh (le_refl _))
abbrev zr9(ta:TA):TI:=λσ H R=>ta σ H λvs H1=>∃j:Int,vs=[.int j]/\-(2^62)<=j/\j<2^62/\R (Itr 0 j.toNat) H1
abbrev zr8(ta:TA):TI:=λσ H R=>ta σ H λvs H1=>∃i j:Int,vs=[.int i,.int j]/\(-(2^62)<=i/\i<2^62/\-(2^62)<=j/\j<2^62)/\R (Itr i (j-i).toNat) H1
def zjt(hg:Gl X "range")(hm:X.mg "range"=Ψ)(ha:PA X [a] ta)(hs:starEach [a] X.env=[(Θ,eval a X.env)]:=by rfl):PI X tg (.Call (.Name "range" p) [a] [] pos) (zr9 ta):=by intro pins s σ H R I h;refine Call_ (zek I hg hm boot_range (PyProof.Rows.callWith_type1 (thn (ha pos pins s σ H _ I h) λus s1 z=>?_) hs rfl));let⟨vs,H1,I1,r1,q1⟩:=z;let⟨j,e,q1,q2,q⟩:=q1;subst e;cases r1 with| cons r rr=>cases rr;let⟨t,rfl⟩:=r;exact call_range_1 (zhj I1 (by lia) (by lia) q1 q2 (by simpa using q))
def zjs(hg:Gl X "range")(hm:X.mg "range"=Ψ)(ha:PA X [a,b] ta)(hs:starEach [a,b] X.env=[(Θ,eval a X.env),(Θ,eval b X.env)]:=by rfl)(hs2:starEach [b] X.env=[(Θ,eval b X.env)]:=by rfl):
  PI X tg (.Call (.Name "range" p) [a,b] [] pos) (zr8 ta):=by
 intro pins s σ H R I h;refine Call_ (zek I hg hm boot_range (PyProof.Rows.callWith_type1 (thn (ha pos pins s σ H _ I h) λus s1 z=>eY z λvs H1 I1 r1 q1=>?_) (by rw[hs,hs2]) (by rw[hs2];rfl)));let⟨i,j,e,⟨q1,q2,q3,q4⟩,q⟩:=q1;subst e;cases r1 with| cons r rr=>cases rr with| cons r' rr=>cases rr;let⟨t,rfl⟩:=r;let⟨t',rfl⟩:=r';exact call_range_2 (zhj I1 q1 q2 q3 q4 q)
abbrev tFor(wi:TI)(g:TG)(tb:TS):TS:=λD σ H=>wi σ H λJ H1=>∃W:Nat->Nat->St->Hp->Prop,(∃m,W 0 m σ H1)/\∀i m σ H,W i m σ H->
 (J.stop i H/\D.nx σ H)\/(J.go i H/\∃N:St->Hp->Prop,(∀σ' H',N σ' H'->∃m',m'<m/\W (i+1) m' σ' H')/\∀x H',J.yld i H x H'->g x σ H' λσ2 H2=>tb {D with nx:=N,ct:=N,bk:=D.nx} σ2 H2)
abbrev zfG(fp:List Addr)(h:Heap):List (Addr×Obj):=fp.filterMap λb=>(h.get? b).map λo=>(b,o)
def zb2(hb:b∈fp)(e:h.get? b=Φ o):(b,o)∈zfG fp h:=List.mem_filterMap.mpr ⟨b,hb,by rw[e];rfl⟩
def zjB(hp:p∈zfG fp h):p.1∈fp/\h.get? p.1=Φ p.2:=by
 let⟨b,hb,e⟩:=List.mem_filterMap.mp hp;cases q:h.get? b with
 |none=>rw[q]at e;exact nS e
 |some o=>rw[q]at e;have e':(b,o)=p:=Option.some.inj e;subst e';exact⟨hb,q⟩
def Inv.pinned(I:Inv X pins σ H s)(hf:∀b∈fp,FpOk X pins H b)(ho:∀b∈fp,∃o,s.heap.get? b=Φ o/\∀v,o.data≠.cell v):Inv X (pins++zfG fp s.heap) σ H s:=I.pins_of λp hp=>(mem_append.mp hp).elim (λz=>I.pin p (mem_append_right _ z)) λz=>by let⟨hb,e⟩:=zjB z;let⟨f0,f1,f2,_⟩:=hf p.1 hb;let⟨o,e',d⟩:=ho p.1 hb;rw[e]at e';cases e';exact⟨e,f0,f1,f2,d⟩
def Inv.unpinned(I:Inv X (a++d) b H s):Inv X a b H s:=I.pins_of λp c=>I.pin p (mem_append_right _ (mem_append_left _ c))
def zpV(hp:PassesOwn (model X.prog X.w) X.A X.env X.xe)(hc:X.calm=Δ)(hi:PI X tg iter wi)(hg:PG X tg g)(hb:PSs X body tb)(hs:∀x,foldedSetIterable iter X.env x=pure x:=by intro _;rfl):PS X (.For tg iter body [] pos) (tFor wi g tb):=by
 intro pins s σ H D I h;refine wpAny_For (thn (hi pins s σ H _ I h) λv s1 h1=>thn h1 λitv s2 h2=>?_) hs;let⟨it,fp,tn,J,H2,e,I2,T,st2,f2,W,⟨m0,w0⟩,turn⟩:=h2;subst e
 -- what stays Δ of the iterator's objects through the loop
 have stat:∀{H':Hp},(∀b∈fp,H' b=Ψ)->∀b∈fp,FpOk X pins H' b:=λhn b hb=>⟨hn b hb,(f2 b hb).2⟩;refine codeAny_forLoop_any (λn s'=>∃i σ' H',Inv X pins σ' H' s'/\tn i s'.heap/\(∀b∈fp,H' b=Ψ)/\W i n σ' H') ?_ m0 ⟨0,σ,H2,I2,st2,λb hb=>(f2 b hb).1,w0⟩;rintro n s3 ⟨i,σ3,H3,I3,st3,fr3,w3⟩;rcases turn i n σ3 H3 w3 with⟨stop,qn⟩|⟨go,N,hN,step⟩;refine wpAny_passesOwn hp (thn (T.done X rfl rfl rfl hc i pins s3 σ3 H3 X.xe I3 (stat fr3) st3 stop) λr s4 k=>?_);let⟨hr,I4⟩:=k;subst hr;exact wpAny_execs_nil ⟨σ3,H3,I4,qn⟩;refine wpAny_passesOwn hp (thn (T.item X rfl rfl rfl hc i pins s3 σ3 H3 X.xe I3 (stat fr3) st3 go) λr s4 z=>?_);let⟨u,hr,h4⟩:=z;subst hr;refine wpAny_passesOwn hp (thn h4 λ_ s5 z=>?_);let⟨x,H5,I5,r5,y5,st5,fr5⟩:=z;have I5':=I5.pinned (stat fr5) (T.obj _ _ st5);refine wpAny_passesOwn hp (thn (hg _ s5 σ3 H5 x u _ I5' r5 (step x H5 y5)) λ_ s6 z=>?_);let⟨σ6,H6,I6,q6⟩:=z;refine wpAny_passesOwn hp (thn (hb _ s6 σ6 H6 _ I6 q6) λf s7 q7=>?_);have again:∀{σ7:St}{H7:Hp},Inv X (pins++zfG fp s5.heap) σ7 H7 s7->N σ7 H7->∃m,m<n/\∃i σ' H',Inv X pins σ' H' s7/\tn i s7.heap/\(∀b∈fp,H' b=Ψ)/\W i m σ' H':=λ{σ7 H7} I7 n7=>by let⟨m',hm,w7⟩:=hN σ7 H7 n7;refine⟨m',hm,i+1,σ7,H7,I7.unpinned,T.keep _ _ _ st5 λb hb o e=>(I7.pin (b,o) (mem_append_right _ (mem_append_right _ (zb2 hb e)))).1,λb hb=>?_,w7⟩;let⟨o,e,d⟩:=T.obj _ _ st5 b hb;exact(I7.pin (b,o) (mem_append_right _ (mem_append_right _ (zb2 hb e)))).2.1
 cases f with|next=>let⟨σ7,H7,I7,n7⟩:=q7;exact again I7 n7|cont=>let⟨σ7,H7,I7,n7⟩:=q7;exact again I7 n7|brk=>let⟨σ7,H7,I7,q7⟩:=q7;exact⟨σ7,H7,I7.unpinned,q7⟩|ret v=>let⟨x7,σ7,H7,I7,r7,q7⟩:=q7;exact⟨x7,σ7,H7,I7.unpinned,r7,q7⟩
end
@[reducible]def R2:=V->V->Hp->VK->Prop
abbrev OpR(X:Cx)(f:Ω->Ω->Sem Ω)(r:R2):Prop:=
 ∀(pins:List (Addr×Obj))(s:Ι)(σ:St)(H:Hp)(x y:V)(v u:Ω)(Q:VK),Inv X pins σ H s->RelV x v->RelV y u->r x y H Q->
  wpAny (model X.prog X.w) X.A (f v u) (EP X pins σ Q) X.xe s
abbrev UnR(X:Cx)(f:Ω->Sem Ω)(r:V->Hp->VK->Prop):Prop:=
 ∀(pins:List (Addr×Obj))(s:Ι)(σ:St)(H:Hp)(x:V)(v:Ω)(Q:VK),Inv X pins σ H s->RelV x v->r x H Q->
  wpAny (model X.prog X.w) X.A (f v) (EP X pins σ Q) X.xe s
abbrev za0(X:Cx)(f:Ω)(r:List V->Hp->VK->Prop):Prop:=
 ∀(pins:List (Addr×Obj))(s:Ι)(σ:St)(H:Hp)(xs:List V)(us:List Ω)(Q:VK),Inv X pins σ H s->Vals xs us->r xs H Q->
  wpAny (model X.prog X.w) X.A (call f us) (EP X pins σ Q) X.xe s
abbrev TruR(X:Cx)(r:V->Hp->(Bool->Hp->Prop)->Prop):Prop:=
 ∀(pins:List (Addr×Obj))(s:Ι)(σ:St)(H:Hp)(x:V)(v:Ω)(Q:Bool->Hp->Prop),Inv X pins σ H s->RelV x v->r x H Q->
  wpAny (model X.prog X.w) X.A (truthy v) (TP X pins σ Q) X.xe s
abbrev tOp(r:R2)(ta tb:TE):TE:=λσ H Q=>ta σ H λx H1=>tb σ H1 λy H2=>r x y H2 Q
abbrev tUn(r:V->Hp->VK->Prop)(ta:TE):TE:=λσ H Q=>ta σ H λx H1=>r x H1 Q
abbrev rI(C:Int->Int->Prop)(g:Int->Int->V):R2:=λx y H Q=>∃i j,x=.int i/\y=.int j/\C i j/\Q (g i j) H
abbrev rI0(g:Int->Int->V):R2:=λx y H Q=>∃i j,x=.int i/\y=.int j/\Q (g i j) H
abbrev rU(g:Int->V):V->Hp->VK->Prop:=λx H Q=>∃i,x=.int i/\Q (g i) H
section
variable{X:Cx}{a b c:Expr}{ta tb tc:TE}{pos:Pos}
def binT(m:PE X a ta)(n:PE X b tb){R:V->V->Hp->Prop}(I:Inv X d g H s)(h:ta g H λx l=>tb g l λy e=>R x y e){f:Ω->Ω->Sem Ω}(o:∀v u k x y e,Inv X d g e k->RelV x v->RelV y u->R x y e->wpAny (model X.prog X.w) X.A (f v u) Q X.xe k):
  wpAny (model X.prog X.w) X.A (eval a X.env) (λv i=>wpAny (model X.prog X.w) X.A (eval b X.env) (λu j=>wpAny (model X.prog X.w) X.A (f v u) Q X.xe j) X.xe i) X.xe s:=by
 refine thn (m d s g H _ I h) λv p z=>?_;let⟨x,l,q,r,t⟩:=z;refine thn (n d p g l _ q t) λu k z=>?_;let⟨y,e,w,A,B⟩:=z;exact o v u k x y e w r A B
def zrM(ho:OpR X (binaryOp op) r)(ha:PE X a ta)(hb:PE X b tb):PE X (.BinOp a op b pos) (tOp r ta tb):=by intro pins s σ H Q I h;exact wpAny_BinOp (binT ha hb I h λv u s2 x y H2 I2 rx ry q=>ho pins s2 σ H2 x y v u Q I2 rx ry q)
def zrK(ho:UnR X (unaryOp op) r)(ha:PE X a ta):PE X (.UnaryOp op a pos) (tUn r ta):=by intro pins s σ H Q I h;exact UnaryOp_ (thn (ha pins s σ H _ I h) λv s1 z=>(by let⟨x,H1,I1,r1,q1⟩:=z;exact ho pins s1 σ H1 x v Q I1 r1 q1))
def opI{g:Int->Int->Int}(rule:∀(i j:Int)(t u:Tok)(s:Ι)(Q:Ω->Ι->Prop)(E:Ω->Ι->Prop),C i j->Q (.int (g i j) s.toks) {s with toks:=s.toks+1}->wpAny (model X.prog X.w) X.A (f (.int i t) (.int j u)) Q E s):
  OpR X f (rI C λi j=>.int (g i j)):=by
 intro d s n H x y v u Q I e k h;let⟨i,j,rfl,rfl,l,q⟩:=h;let⟨t,rfl⟩:=e;let⟨m,rfl⟩:=k;exact rule i j t m s _ _ l ⟨.int (g i j),H,I.tok _,⟨_,rfl⟩,q⟩
def opI0{g:Int->Int->Int}(rule:∀(i j:Int)(t u:Tok)(s:Ι)(Q:Ω->Ι->Prop)(E:Ω->Ι->Prop),Q (.int (g i j) s.toks) {s with toks:=s.toks+1}->wpAny (model X.prog X.w) X.A (f (.int i t) (.int j u)) Q E s):
  OpR X f (rI0 λi j=>.int (g i j)):=by
 intro d s m H x y v u Q I e k h;let⟨i,j,rfl,rfl,q⟩:=h;let⟨t,rfl⟩:=e;let⟨l,rfl⟩:=k;exact rule i j t l s _ _ ⟨.int (g i j),H,I.tok _,⟨_,rfl⟩,q⟩
def opB0{g:Int->Int->Bool}(rule:∀(i j:Int)(t u:Tok)(s:Ι)(Q:Ω->Ι->Prop)(E:Ω->Ι->Prop),Q (.bool (g i j)) s->wpAny (model X.prog X.w) X.A (f (.int i t) (.int j u)) Q E s):
  OpR X f (rI0 λi j=>.bl (g i j)):=by
 intro d s m H x y v u Q I e k h;let⟨i,j,rfl,rfl,q⟩:=h;let⟨t,rfl⟩:=e;let⟨l,rfl⟩:=k;exact rule i j t l s _ _ ⟨.bl (g i j),H,I,rfl,q⟩
abbrev CDiv(i j:Int):Prop:=0<j/\j<1073741824
abbrev CPow(i j:Int):Prop:=0<=j/\j<=1000000/\i.natAbs<2^64
abbrev CMul(i j:Int):Prop:=(-(2^64)<i/\i<2^64)\/(-(2^64)<j/\j<2^64)
def CMul.ok(h:CMul i j):IntMulOk i j:=by rcases h with⟨d,e⟩|⟨d,e⟩;exact .of_left (intBits_le_64 d e);exact .of_right (intBits_le_64 d e)
def zqn:OpR X (binaryOp .Add) (rI0 λi j=>.int (i+j)):=opI0 λ_ _ _ _ _ _ _ q=>add_int q
def zqe:OpR X (binaryOp .Sub) (rI0 λi j=>.int (i-j)):=opI0 λ_ _ _ _ _ _ _ q=>sub_int q
def zqh:OpR X (binaryOp .Mult) (rI CMul λi j=>.int (i*j)):=opI λ_ _ _ _ _ _ _ hc q=>mul_int q hc.ok
def znS:OpR X (binaryOp .FloorDiv) (rI CDiv λi j=>.int (i/j)):=opI λi j _ _ _ _ _ hc q=>by have h1:(0:Int)<j:=hc.1;have h2:j<1073741824:=hc.2;exact floordiv_int (by lia) (by rw[Int.fdiv_eq_ediv_of_nonneg i (by lia)];exact q) (.inl (PyProof.noPylong_small (by lia)))
def zqi:OpR X (binaryOp .Mod) (rI (λ_ j=>0<j) λi j=>.int (i%j)):=opI λi j _ _ _ _ _ hc q=>by have h1:(0:Int)<j:=hc;exact mod_int' (by lia) (by rw[Int.fmod_eq_emod_of_nonneg i (by lia)];exact q)
def zqf:OpR X (binaryOp .Pow) (rI CPow λi j=>.int (i^j.toNat)):=opI λ_ _ _ _ _ _ _ hc q=>pow_int_small hc.1 hc.2.1 hc.2.2 q
def unI{g:Int->Int}(rule:∀(i:Int)(t:Tok)(s:Ι)(Q:Ω->Ι->Prop)(E:Ω->Ι->Prop),Q (.int (g i) s.toks) {s with toks:=s.toks+1}->wpAny (model X.prog X.w) X.A (f (.int i t)) Q E s):
  UnR X f (rU λi=>.int (g i)):=by
 intro d s j H x v Q I e h;let⟨i,rfl,q⟩:=h;let⟨t,rfl⟩:=e;exact rule i t s _ _ ⟨.int (g i),H,I.tok _,⟨_,rfl⟩,q⟩
def zoV:UnR X (unaryOp .USub) (rU λi=>.int (-i)):=unI λ_ _ _ _ _ q=>neg_int q
end
abbrev scal:V->V->Bool
 |.non,.non=>Δ|.non,.int _=>Δ|.int _,.non=>Δ|.non,.bl _=>Δ|.bl _,.non=>Δ|.non,.str _=>Δ|.str _,.non=>Δ
 |.int _,.int _=>Δ|.bl _,.bl _=>Δ|.str _,.str _=>Δ|.byt _,.byt _=>Δ
 |.int _,.str _=>Δ|.str _,.int _=>Δ|.bl _,.str _=>Δ|.str _,.bl _=>Δ
 |_,_=>Θ
abbrev rEq:R2:=λx y H Q=>scal x y=Δ/\Q (.bl (decide (x=y))) H
abbrev rNe:R2:=λx y H Q=>scal x y=Δ/\Q (.bl (!decide (x=y))) H
def zkz:decide (V.int i=V.int j)=(i==j):=by rw[Bool.eq_iff_iff];simp
def zmF:decide (V.bl i=V.bl j)=(i==j):=by rw[Bool.eq_iff_iff];simp
def zky:decide (V.str i=V.str j)=(i==j):=by rw[Bool.eq_iff_iff];simp
def zkA:decide (V.byt i=V.byt j)=(i.toList==j.toList):=by rw[Bool.eq_iff_iff];cases i;cases j;simp
section
variable{X:Cx}{a b c:Expr}{ta tb tc:TE}{pos:Pos}
def zam(I:Inv X pins σ H s)(q:Q (.bl k) H)(e:k=k'):EP X pins σ Q (.bool k') s:=by subst e;exact⟨.bl k,H,I,rfl,q⟩
def zrV:OpR X (compareOp .Eq) rEq:=by
 intro pins s σ H x y v u Q I rx ry h;let⟨hs,q⟩:=h;cases x with
 |non=>cases rx;cases y with|non=>cases ry;exact PySem.EqNone.eq_none_none (zam I q (by simp))|bl j=>cases ry;exact PySem.EqNone.eq_none_bool (zam I q (by simp))|int j=>let⟨t',rfl⟩:=ry;exact PySem.EqNone.eq_none_int (zam I q (by simp))|str j=>let⟨t',rfl⟩:=ry;exact PySem.EqNone.eq_none_str (zam I q (by simp))|_=>exact absurd (show Θ=Δ from hs) Ε
 |bl i=>cases rx;cases y with|non=>cases ry;exact PySem.EqNone.eq_bool_none (zam I q (by simp))|bl j=>cases ry;exact eq_bool (zam I q zmF)|str j=>let⟨t',rfl⟩:=ry;exact PySem.EqMixed.eq_bool_str (zam I q (by simp))|_=>exact absurd (show Θ=Δ from hs) Ε
 |int i=>let⟨t,rfl⟩:=rx;cases y with|non=>cases ry;exact PySem.EqNone.eq_int_none (zam I q (by simp))|int j=>let⟨t',rfl⟩:=ry;exact eq_int (zam I q zkz)|str j=>let⟨t',rfl⟩:=ry;exact PySem.EqMixed.eq_int_str (zam I q (by simp))|_=>exact absurd (show Θ=Δ from hs) Ε
 |str i=>let⟨t,rfl⟩:=rx;cases y with|non=>cases ry;exact PySem.EqNone.eq_str_none (zam I q (by simp))|bl j=>cases ry;exact PySem.EqMixed.eq_str_bool (zam I q (by simp))|int j=>let⟨t',rfl⟩:=ry;exact PySem.EqMixed.eq_str_int (zam I q (by simp))|str j=>let⟨t',rfl⟩:=ry;exact eq_str (zam I q zky)|_=>exact absurd (show Θ=Δ from hs) Ε
 |byt i=>let⟨t,rfl⟩:=rx;cases y with|byt j=>let⟨t',rfl⟩:=ry;exact PySem.W.eq_bytes (zam I q zkA)|_=>exact absurd (show Θ=Δ from hs) Ε
 |_=>cases y<;>exact absurd (show Θ=Δ from hs) Ε
def zrQ:OpR X (compareOp .NotEq) rNe:=by
 intro pins s σ H x y v u Q I rx ry h;let⟨hs,q⟩:=h;cases x with
 |non=>cases rx;cases y with|non=>cases ry;exact PySem.EqNone.ne_none_none (zam I q (by simp))|bl j=>cases ry;exact PySem.EqNone.ne_none_bool (zam I q (by simp))|int j=>let⟨t',rfl⟩:=ry;exact PySem.EqNone.ne_none_int (zam I q (by simp))|str j=>let⟨t',rfl⟩:=ry;exact PySem.EqNone.ne_none_str (zam I q (by simp))|_=>exact absurd (show Θ=Δ from hs) Ε
 |bl i=>cases rx;cases y with|non=>cases ry;exact PySem.EqNone.ne_bool_none (zam I q (by simp))|bl j=>cases ry;exact ne_bool (zam I q (congrArg not zmF))|str j=>let⟨t',rfl⟩:=ry;exact PySem.EqMixed.ne_bool_str (zam I q (by simp))|_=>exact absurd (show Θ=Δ from hs) Ε
 |int i=>let⟨t,rfl⟩:=rx;cases y with|non=>cases ry;exact PySem.EqNone.ne_int_none (zam I q (by simp))|int j=>let⟨t',rfl⟩:=ry;exact ne_int (zam I q (congrArg not zkz))|str j=>let⟨t',rfl⟩:=ry;exact PySem.EqMixed.ne_int_str (zam I q (by simp))|_=>exact absurd (show Θ=Δ from hs) Ε
 |str i=>let⟨t,rfl⟩:=rx;cases y with|non=>cases ry;exact PySem.EqNone.ne_str_none (zam I q (by simp))|bl j=>cases ry;exact PySem.EqMixed.ne_str_bool (zam I q (by simp))|int j=>let⟨t',rfl⟩:=ry;exact PySem.EqMixed.ne_str_int (zam I q (by simp))|str j=>let⟨t',rfl⟩:=ry;exact ne_str (zam I q (congrArg not zky))|_=>exact absurd (show Θ=Δ from hs) Ε
 |byt i=>let⟨t,rfl⟩:=rx;cases y with|byt j=>let⟨t',rfl⟩:=ry;exact PySem.W.ne_bytes (zam I q (congrArg not zkA))|_=>exact absurd (show Θ=Δ from hs) Ε
 |_=>cases y<;>exact absurd (show Θ=Δ from hs) Ε
def zrR:OpR X (compareOp .Lt) (rI0 λi j=>.bl (decide (i<j))):=opB0 λ_ _ _ _ _ _ _ q=>lt_int q
def zrS:OpR X (compareOp .LtE) (rI0 λi j=>.bl (decide (i<=j))):=opB0 λ_ _ _ _ _ _ _ q=>le_int q
def zrT:OpR X (compareOp .Gt) (rI0 λi j=>.bl (decide (j<i))):=opB0 λ_ _ _ _ _ _ _ q=>gt_int q
def zrU:OpR X (compareOp .GtE) (rI0 λi j=>.bl (decide (j<=i))):=opB0 λ_ _ _ _ _ _ _ q=>ge_int q
def znN(ho:OpR X (compareOp op) r)(ha:PE X a ta)(hb:PE X b tb)(hm:behindInMarks op b=Θ):PE X (.Compare a [op] [b] pos) (tOp r ta tb):=by intro pins s σ H Q I h;exact wpAny_Compare1 (binT ha hb I h λv u s2 x y H2 I2 rx ry q=>ho pins s2 σ H2 x y v u Q I2 rx ry q) hm
abbrev zo8(t:TE):TT:=λσ H Q=>t σ H λx H'=>∃k,x=.bl k/\Q k H'
def znE(ho:OpR X (compareOp op) r)(ha:PE X a ta)(hb:PE X b tb)(hm:behindInMarks op b=Θ):PT X (.Compare a [op] [b] pos) (zo8 (tOp r ta tb)):=by intro pins s σ H Q I h;refine wpAny_isTrue_Compare1 (thn (ha pins s σ H _ I h) λv s1 z=>eY z λx H1 I1 r1 q1=>thn (hb pins s1 σ H1 _ I1 q1) λu s2 z=>eY z λy H2 I2 r2 q2=>thn (ho pins s2 σ H2 x y v u _ I2 r1 r2 q2) λc s3 j=>?_) hm;let⟨z,H3,I3,r3,k,e,q3⟩:=j;subst e;cases r3;exact ϟ ⟨H3,I3,q3⟩
abbrev zmb(r r':R2)(ta tb tc:TE):TE:=λσ H Q=>ta σ H λx H1=>tb σ H1 λy H2=>r x y H2 λz H3=>∃k,z=.bl k/\
 (if k=Δ then tc σ H3 λw' H4=>r' y w' H4 Q else Q (.bl Θ) H3)
def zlw(ho:OpR X (compareOp op) r)(ho':OpR X (compareOp op') r')(ha:PE X a ta)(hb:PE X b tb)(hc:PE X c tc)(hm:lastMarks [op,op'] [b,c]=Θ:=by with_unfolding_all rfl):PE X (.Compare a [op,op'] [b,c] pos) (zmb r r' ta tb tc):=by
 intro pins s σ H Q I h;refine Compare_chain (thn (ha pins s σ H _ I h) λv s1 z=>eY z λx H1 I1 r1 q1=>chain_link (thn (hb pins s1 σ H1 _ I1 q1) λu s2 z=>eY z λy H2 I2 r2 q2=>thn (ho pins s2 σ H2 x y v u _ I2 r1 r2 q2) λd s3 j=>?_)) hm;let⟨z,H3,I3,r3,k,e,q3⟩:=j;subst e;cases r3;refine ϟ ?_;cases k with|false=>exact ite_ff ⟨.bl Θ,H3,I3,rfl,q3⟩|true=>exact ite_tt (chain_last (thn (hc pins s3 σ H3 _ I3 q3) λw' s4 p=>(by let⟨z',H4,I4,r4,q4⟩:=p;exact ho' pins s4 σ H4 y z' u w' Q I4 r2 r4 q4)))
def zlh(ho:OpR X (compareOp op) r)(ho':OpR X (compareOp op') r')(ha:PE X a ta)(hb:PE X b tb)(hc:PE X c tc)(hm:lastMarks [op,op'] [b,c]=Θ:=by with_unfolding_all rfl):PT X (.Compare a [op,op'] [b,c] pos) (zo8 (zmb r r' ta tb tc)):=by
 intro pins s σ H Q I h;refine isTrue_chain (thn (ha pins s σ H _ I h) λv s1 z=>eY z λx H1 I1 r1 q1=>test_link (thn (hb pins s1 σ H1 _ I1 q1) λu s2 z=>eY z λy H2 I2 r2 q2=>thn (ho pins s2 σ H2 x y v u _ I2 r1 r2 q2) λd s3 j=>?_)) hm;let⟨z,H3,I3,r3,k,e,q3⟩:=j;subst e;cases r3;refine ϟ ?_;cases k with| false=>let⟨k',e',q'⟩:=q3;cases e';exact ite_ff ⟨H3,I3,q'⟩| true=>refine ite_tt (test_last (thn (hc pins s3 σ H3 _ I3 q3) λw' s4 z=>eY z λz' H4 I4 r4 q4=>thn (ho' pins s4 σ H4 y z' u w' _ I4 r2 r4 q4) λd' s5 j=>?_));let⟨z2,H5,I5,r5,k2,e2,q5⟩:=j;subst e2;cases r5;exact ϟ ⟨H5,I5,q5⟩
abbrev TruV(K:Frag)(x:V)(H:Hp)(k:Bool):Prop:=match x with|.non=>k=Θ|.bl b=>k=b|.int i=>k=(i != 0)|.str y=>y.length<=sizeLine/\k=((y.length:Int) != 0)|.byt y=>y.size<=sizeLine/\k=((y.size:Int) != 0)|.ref p=>(∃xs,SqL K H p xs/\k = !xs.isEmpty)\/(∃xs,SqT K H p xs/\k = !xs.isEmpty)\/∃kvs,H p=Φ (.dK kvs)/\k = !kvs.isEmpty|_=>False
def zit(r:KV kvs vs):(!vs.isEmpty) = !kvs.isEmpty:=by cases r<;>rfl
def zen(r:Vals xs its):(!its.toArray.isEmpty) = !xs.isEmpty:=by cases r<;>simp
def zej:(sizeLine:Nat)<2^63:=by rw[ϑ];decide
def zoZ:TruR X (λx H Q=>∃k,TruV X.K x H k/\Q k H):=by
 intro pins s σ H x v Q I rx h;let⟨k,e,q⟩:=h;have hl:=zej;have hs:sizeLine=16777216:=ϑ;cases x with
 |non=>cases rx;have e':k=Θ:=e;subst e';exact truthy_none ⟨H,I,q⟩| bl b=>cases rx;have e':k=b:=e;subst e';exact ϟ ⟨H,I,q⟩| int i=>let⟨t,rfl⟩:=rx;have e':k=(i != 0):=e;subst e';exact PySem.P.truthy_int ⟨H,I,q⟩| str y=>let⟨t,rfl⟩:=rx;obtain⟨hy,e'⟩:y.length<=sizeLine/\k=((y.length:Int) != 0):=e;subst e';exact PySem.P.truthy_str (by lia) ⟨H,I.tok _,q⟩| byt y=>let⟨t,rfl⟩:=rx;obtain⟨hy,e'⟩:y.size<=sizeLine/\k=((y.size:Int) != 0):=e;subst e';exact PySem.W.truthy_bytes (by lia) ⟨H,I.tok _,q⟩| ref p=>cases rx;have e':(∃xs,SqL X.K H p xs/\k = !xs.isEmpty)\/(∃xs,SqT X.K H p xs/\k = !xs.isEmpty)\/∃kvs,H p=Φ (.dK kvs)/\k = !kvs.isEmpty:=e;rcases e' with⟨xs,hx,e'⟩|⟨xs,hx,e'⟩|⟨kvs,hx,e'⟩;subst e';let⟨its,r,pl,hz⟩:=I.list hx;have hlen:=r.length;exact wpAny_truthy_list pl.isList (by simp![size_toArray];lia) ⟨H,I.tok _,by rw[zen r];exact q⟩;subst e';let⟨its,r,pl,hz⟩:=I.tuple hx;have hlen:=r.length;exact truthy_tuple pl (by simp![size_toArray];lia) ⟨H,I.tok _,by rw[zen r];exact q⟩;subst e';obtain⟨hz,hS,vs,r,m⟩:kvs.length<=sizeLine/\(p==sysModules)=Θ/\∃vs,KV kvs vs/\s.heap.DictOf (zaf X.prog X.w) p vs:=I.hok p _ hx;have hlen:kvs.length=vs.length:=Paired.length r;exact wpAny_truthy_dict hS m (by lia) ⟨H,I.tok _,by rw[zit r];exact q⟩
 |_=>exact(show False from e).elim
def zlg(ha:PE X a ta)(he:∀whole,isTrue a X.env whole=(do let v <-whole;standAt a.pos;holding [v] (truthy v))) :
  PT X a (λσ H Q=>ta σ H λx H'=>∃k,TruV X.K x H' k/\Q k H'):=by
 intro pins s σ H Q I h;exact isTrue_plain (thn (ha pins s σ H _ I h) λv s1 z=>(by let⟨x,H1,I1,r1,q1⟩:=z;exact zoZ pins s1 σ H1 x v Q I1 r1 q1)) (he _)
def zkS(r:Vals [x] us):∃u,us=[u]/\RelV x u:=by cases r with|cons r1 r2=>cases r2;exact⟨_,rfl,r1⟩
def zmU(r:Vals [x,y] us):∃u w',us=[u,w']/\RelV x u/\RelV y w':=by cases r with| cons r1 r2=>cases r2 with|cons r3 r4=>cases r4;exact⟨_,_,rfl,r1,r3⟩
def zl0:za0 X (.builtin "abs") (λxs H Q=>∃i,xs=[.int i]/\Q (.int (if i<0 then -i else i)) H):=by intro pins s σ H xs us Q I r h;let⟨i,rfl,q⟩:=h;let⟨u,rfl,t,rfl⟩:=zkS r;exact call_abs_int λu tk=>⟨.int (if i<0 then -i else i),H,I.tok _,⟨_,rfl⟩,q⟩
def zkF(hc:X.calm=Δ):za0 X (.builtin "max") (λxs H Q=>∃i j,xs=[.int i,.int j]/\Q (.int (if j>i then j else i)) H):=by intro pins s σ H xs us Q I r h;let⟨i,j,rfl,q⟩:=h;let⟨u,w',rfl,⟨t,rfl⟩,⟨t',rfl⟩⟩:=zmU r;refine max_two_ints (I.ok.hd hc) λh' tk k=>⟨_,H,I.kept k,?_,q⟩;by_cases hj:j>i;rw[if_pos hj,if_pos hj];exact⟨_,rfl⟩;rw[if_neg hj,if_neg hj];exact⟨_,rfl⟩
def zkE(hc:X.calm=Δ):za0 X (.builtin "min") (λxs H Q=>∃i j,xs=[.int i,.int j]/\Q (.int (if j<i then j else i)) H):=by intro pins s σ H xs us Q I r h;let⟨i,j,rfl,q⟩:=h;let⟨u,w',rfl,⟨t,rfl⟩,⟨t',rfl⟩⟩:=zmU r;refine min_two_ints (I.ok.hd hc) λh' tk k=>⟨_,H,I.kept k,?_,q⟩;by_cases hj:j<i;rw[if_pos hj,if_pos hj];exact⟨_,rfl⟩;rw[if_neg hj,if_neg hj];exact⟨_,rfl⟩
end
structure ObjM(h:Heap)(x dx C:Addr)(mA:Str->Option Ω):Prop where
 obj:h.get? x=Φ (instObj C dx)
 ns:h.Ns1 dx mA
 ne:dx≠x
def zjU{h:Heap}(n:h.Ns1 dx mA):∃od,h.get? dx=Φ od/\∀name,lookIn name od=Φ (mA name):=by
 let⟨o,es,ep,ho,hd,hk,_,hm⟩:=n;refine⟨o,ho,λname=>?_⟩;have e:=hm name;unfold nsFind findBy at e;rw[<-Array.find?_toList]at e;unfold lookIn;rw[hd];dsimp only;split;rename_i y q;rw[q]at e;exact congrArg Φ e;rename_i q;rw[q]at e;have a:es.toList.any (·.refKey)=Θ:=by rw[List.any_eq_false];intro y hy;let⟨z,t,hkey⟩:=hk y (Array.mem_toList_iff.mp hy);simp[DictEntry.refKey,hkey]
 have a':¬es.toList.any (·.refKey)=Δ:=by rw[a];exact Ε
 rw[if_neg a'];exact congrArg Φ e
def ObjM.look(I:ObjM h x dx C mA):∃od,PySem.W.InstAt h x (instObj C dx) C (Φ od)/\∀name,lookIn name od=Φ (mA name):=
 let ⟨od,ho,hl⟩:=zjU I.ns
 ⟨od,⟨I.obj,rfl,rfl,ho⟩,hl⟩
section
variable{prog:Χ}{w:ϒ}{A:ϔ}{E:Ω->Ι->Prop}{s:Ι}{K:Frag}{x dx C f:Addr}{mA:Str->Option Ω}{name:Str}{v:Ω}
def zoj(X:K.In s.heap)(I:ObjM s.heap x dx C mA)(hg:plainGet K C name=Δ)(hh:hasDictIn K C=Δ)(ha:findIn K (.ref C) name=Φ Ψ)(hv:mA name=Φ v)(hv':handedIn v=Δ)(h:Q v {s with toks:=s.toks+1}):
  wpAny (model prog w) A (getAttr (.ref x) name expr) Q E s:=by
 let⟨od,J,hl⟩:=I.look;exact PySem.W.get_value X J (plainGet_of hg).1 (PySem.W.findObj_own hh ha rfl (by rw[hl,hv])) hv' h
def zlQ(X:K.In s.heap)(I:ObjM s.heap x dx C mA)(hg:plainGet K C name=Δ)(hf:findIn K (.ref C) name=Φ (Φ (.ref f)))(ht:isFn K (.ref f)=Δ)(hv:mA name=Ψ)(h:Q (.ref f,[.ref x]) s):
  wpAny (model prog w) A (getMethod (.ref x) name pl) Q E s:=by
 let⟨od,J,hl⟩:=I.look;exact PySem.W.method_fn X J (plainGet_of hg).1 (plainGet_of hg).2 hf (beq_iff_eq.mp ht) (by show(lookIn name od).map (·.isSome)=Φ Θ;rw[hl,hv];rfl) h
def znd(X:K.In s.heap)(I:ObjM s.heap x dx C mA)(hs:findIn K (.ref C) "__setattr__"=Φ (Φ (.builtin "object.__setattr__")))(hp:plainOver K C=Δ)(ht:takerIn K C name=Φ Ψ)(hh:hasDictIn K C=Δ)(hw:PySem.Within mA ns)(hsz:ns.length<=sizeLine)(h:∀h',ObjM h' x dx C (λy=>if y=name then Φ v else mA y)->Heap.SameBut dx s.heap h'->Q () {s with heap:=h',toks:=s.toks+2}):
  wpAny (model prog w) A (setAttr (.ref x) name v) Q E s:=by
 let⟨od,J,hl⟩:=I.look;refine PySem.W.set_plain X J hs (PySem.W.osa_open (s:={s with toks:=s.toks+1}) (r:=Ψ) X J hp ht λb=>?_);let⟨cd,hc,hd'⟩:=PySem.W.any_some hh;have hx:s.heap.get? x=Φ ⟨.ref C,Φ dx,.plain,#[]⟩:=I.obj;refine Ξ (Λ (Ξ (Ξ (wpAny_loadPart hx (Ξ (PySem.W.Looks.here (s:={s with toks:=s.toks+1}) (PySem.W.looks_clsIn X hc) ?_))))));rw[hd'];refine Λ (a:=Φ dx) (Ξ (Λ (Ξ ?_)));refine wpAny_nsSet1 (s:={s with toks:=s.toks+1}) I.ns λh' hn2 hs2=>?_;let⟨oD,esD,epD,hoD,hdD,hcD⟩:=hn2.count (PySem.Within.cons name v hw);refine Ξ (wpAny_lookBehind hoD (by rw[hdD];exact pastItsLine_dict (le_trans hcD (by rw[length_cons];lia))) ?_);exact Λ (h _ ⟨(hs2.2 _ (Ne.symm I.ne)).trans I.obj,hn2,I.ne⟩ hs2)
def zlC(X:K.In s.heap)(hm:makesIn K C=Δ)(hi:findIn K (.ref C) "__init__"=Φ (Φ (.ref f)))(hf:PySem.W.typeIn K (.ref f)=Φ (.type "function"))(h:codeAny (model prog w) (A.under (.builtin "type.__call__" ⟨.ref C::vs,kw⟩)) (.call (.ref f) ⟨.ref (s.heap.objs.size+1)::vs,kw⟩) (PySem.W.InitBack (s.heap.objs.size+1) R)
   {s with heap:=(s.heap.push emptyDict).push (instObj C s.heap.objs.size)}):
  codeAny (model prog w) A (.call (.ref C) ⟨vs,kw⟩) R s:=by
 let⟨hh,g,d,t,os⟩:=s;exact PySem.W.make_core (PySem.W.makes_of X hm) (PySem.W.looks_findIn X hi) (λself=>PySem.W.bind_fn X self hf) (.inl rfl) h
end
abbrev putF(f:Str)(v:V):List (Str×V)->List (Str×V)
 | []=>[(f,v)]|(g,x)::r=>if g=f then(g,v)::r else(g,x)::putF f v r
def zdF(f g)(v):∀fs:List (Str×V),(putF f v fs).lookup g=if g=f then Φ v else fs.lookup g
 | []=>by show List.lookup g [(f,v)]=_;by_cases h:g=f;have hb:(g==f)=Δ:=beq_iff_eq.mpr h;simp![List.lookup,hb,if_pos h];have hb:(g==f)=Θ:=beq_eq_false_iff_ne.mpr h;simp![List.lookup,hb,if_neg h]| (k,x)::r=>by have ih:=zdF f g v r;rw[show putF f v ((k,x)::r)=(if k=f then(k,v)::r else(k,x)::putF f v r) from rfl];by_cases hk:k=f;rw[if_pos hk];by_cases h:g=k;have hb:(g==k)=Δ:=beq_iff_eq.mpr h;simp![List.lookup,hb,if_pos (h.trans hk)];have hb:(g==k)=Θ:=beq_eq_false_iff_ne.mpr h;simp![List.lookup,hb,if_neg (λe:g=f=>h (e.trans hk.symm))];rw[if_neg hk];by_cases h:g=k;have hb:(g==k)=Δ:=beq_iff_eq.mpr h;simp![List.lookup,hb,if_neg (λe:g=f=>hk (h.symm.trans e))];have hb:(g==k)=Θ:=beq_eq_false_iff_ne.mpr h;simp![List.lookup,hb];exact ih
def zdJ(f)(v):∀fs:List (Str×V),f∈(putF f v fs).map (·.1)/\∀g,g∈fs.map (·.1)->g∈(putF f v fs).map (·.1)
 | []=>⟨by simp[putF],λg h=>by simp at h⟩| (k,x)::r=>by let⟨i1,i2⟩:=zdJ f v r;rw[show putF f v ((k,x)::r)=(if k=f then(k,v)::r else(k,x)::putF f v r) from rfl];by_cases hk:k=f;rw[if_pos hk];subst hk;exact⟨by simp,λg h=>by simpa using h⟩;rw[if_neg hk];refine⟨?_,λg h=>?_⟩;rw[ϊ];exact Ρ _ i1;rw[ϊ]at h⊢;rcases mem_cons.mp h with e|e;exact mem_cons.mpr (.inl e);exact Ρ _ (i2 g e)
def zdH(f)(v):∀fs:List (Str×V),(putF f v fs).length<=fs.length+1
 | []=>by simp[putF]| (k,x)::r=>by have ih:=zdH f v r;rw[show putF f v ((k,x)::r)=(if k=f then(k,v)::r else(k,x)::putF f v r) from rfl];by_cases hk:k=f;rw[if_pos hk,length_cons,length_cons];lia;rw[if_neg hk,length_cons,length_cons];lia
def RelO.some_of(r:RelO (Φ v) o):∃u,o=Φ u/\RelV v u:=by cases o with|none=>exact(show False from r).elim|some u=>exact⟨u,rfl,r⟩
def RelO.none_of(r:RelO Ψ o):o=Ψ:=by cases o with|none=>rfl|some u=>exact(show False from r).elim
def zkn(r:RelV v u):handedIn u=Δ:=by cases v with|non=>cases(show u=Ω.none from r);rfl|bl b=>cases(show u=Ω.bool b from r);rfl|int i=>let⟨t,e⟩:=(show ∃t,u=Ω.int i t from r);cases e;rfl|str x=>let⟨t,e⟩:=(show ∃t,u=Ω.str x t from r);cases e;rfl|byt b=>let⟨t,e⟩:=(show ∃t,u=Ω.bytes b t from r);cases e;rfl|flt b=>let⟨t,e⟩:=(show ∃t,u=Ω.float b t from r);cases e;rfl|ref a=>cases(show u=Ω.ref a from r);rfl|ty n=>cases(show u=Ω.type n from r);rfl
section
variable{P:Χ}{w:ϒ}{H H':Hp}{h h':Heap}{a C dx:Addr}{fs fs':List (Str×V)}
def ins_get(hok:HOk P w H h)(e:H a=Φ (.ins C dx fs)):∃mA,ObjM h a dx C mA/\(∀f,RelO (fs.lookup f) (mA f))/\PySem.Within mA (fs.map (·.1))/\fs.length<=1000/\H dx=Φ (.own a):=by let⟨d,z,ne,ob,mA,n,r,q⟩:=(show ObjOk P w H h a (.ins C dx fs) from hok a _ e);exact⟨mA,⟨ob,n,ne⟩,r,q,z,d⟩
end
structure Cls(K:Frag)(C:Addr):Prop where
 pg:plainGet K C Str.empty=Δ
 hd:hasDictIn K C=Δ
 po:plainOver K C=Δ
 sa:findIn K (.ref C) "__setattr__"=Φ (Φ (.builtin "object.__setattr__"))
def Cls.get{K}(c:Cls K C)(f):plainGet K C f=Δ:=c.pg
abbrev NoAttr(K:Frag)(C:Addr)(f:Str):Prop:=findIn K (.ref C) f=Φ Ψ
def NoAttr.taker{K}(n:NoAttr K C f):takerIn K C f=Φ Ψ:=by unfold takerIn;rw[show findIn K (.ref C) f=Φ Ψ from n];rfl
structure Con(K:Frag)(C:Addr)(f:Str)(v:V)(u:Ω):Prop where
 at_:findIn K (.ref C) f=Φ (Φ u)
 rel:RelV v u
 get:specialIn K u "__get__"=Φ Ψ
 cp:PySem.W.copiedNames.contains f=Θ
structure Meth(K:Frag)(C:Addr)(m:Str)(f:Addr):Prop where
 at_:findIn K (.ref C) m=Φ (Φ (.ref f))
 fn:isFn K (.ref f)=Δ
 kp:keepIn K (.ref f)=Δ
section
variable{X:Cx}{pins:List (Addr×Obj)}{σ:St}{H:Hp}{s:Ι}{a C dx:Addr}{fs:List (Str×V)}{f:Str}{v:V}{A:ϔ}{E:Ω->Ι->Prop}
def ziv(I:Inv X pins σ H s)(e:H a=Φ (.ins C dx fs))(c:Cls X.K C)(n:NoAttr X.K C f)(l:fs.lookup f=Φ v)(h:∀u s',Inv X pins σ H s'->RelV v u->Q u s'):wpAny (model X.prog X.w) A (getAttr (.ref a) f b) Q E s:=by
 let⟨mA,O,r,_,_,_⟩:=ins_get I.hok e;let⟨u,hu,ru⟩:=RelO.some_of (v:=v) (o:=mA f) (by rw[<-l];exact r f);exact zoj I.kIn O (c.get f) c.hd n hu (zkn ru) (h u _ (I.tok _) ru)
def zep(I:Inv X pins σ H s)(e:H a=Φ (.ins C dx fs))(c:Cls X.K C)(k:Meth X.K C m g)(l:fs.lookup m=Ψ)(h:Q (.ref g,[.ref a]) s):wpAny (model X.prog X.w) A (getMethod (.ref a) m pl) Q E s:=by
 let⟨mA,O,r,_,_,_⟩:=ins_get I.hok e;have hn:mA m=Ψ:=RelO.none_of (by rw[<-l];exact r m);exact zlQ I.kIn O (c.get m) k.at_ k.fn hn h
def zhW(I:Inv X pins σ H s)(e:H a=Φ (.ins C dx fs))(c:Cls X.K C)(n:NoAttr X.K C f)(hl:fs.length<1000)(ry:RelV y u)(h:∀s',Inv X pins σ (upd H a (.ins C dx (putF f y fs))) s'->Q () s'):wpAny (model X.prog X.w) A (setAttr (.ref a) f u) Q E s:=by
 let⟨mA,O,r,wi,_,ho⟩:=ins_get I.hok e;have hz:(fs.map (·.1)).length<=sizeLine:=by rw[length_map,ϑ];lia
 refine znd I.kIn O c.sa c.po n.taker c.hd wi hz λh' O' sb=>h _ ?_;have hd:∃o,h'.get? dx=Φ o:=let ⟨o,_,_,e',_⟩:=O'.ns;⟨o,e'⟩;refine I.write (x:=a) (e:=dx) (by rw[e];exact True.intro) (.inr ho) (λb q hb z=>(sb.2 b hb).trans z) hd ?_;refine⟨by rw[zai O.ne];exact ho,?_,O.ne,O'.obj,_,O'.ns,λg=>?_,λg hg=>?_⟩
 have:=zdH f y fs;lia;show RelO ((putF f y fs).lookup g) (if g=f then Φ u else mA g);rw[zdF];by_cases q:g=f;rw[if_pos q,if_pos q];exact ry;rw[if_neg q,if_neg q];exact r g;by_cases q:g=f;rw[q];exact(zdJ f y fs).1;refine(zdJ f y fs).2 g (wi g λz=>hg ?_);show(if g=f then Φ u else mA g)=Ψ;rw[if_neg q];exact z
def Inv.made(I:Inv X pins σ H s):Inv X pins σ (upd (upd H s.heap.objs.size (.own (s.heap.objs.size+1))) (s.heap.objs.size+1) (.ins C s.heap.objs.size []))
  {s with heap:=(s.heap.push emptyDict).push (instObj C s.heap.objs.size)}:=by
 have e1:(s.heap.push emptyDict).get? s.heap.objs.size=Φ emptyDict:=Μ s.heap rfl;have e2:((s.heap.push emptyDict).push (instObj C s.heap.objs.size)).get? (s.heap.objs.size+1)=Φ (instObj C s.heap.objs.size):=by
  have:=Μ (s.heap.push emptyDict) (o:=instObj C s.heap.objs.size) rfl
  rwa [ϓ]at this
 have e3:(s.heap.push emptyDict).Ns s.heap.objs.size (λ_=>Ψ):=⟨emptyDict,#[],_,e1,rfl,(λe he=>absurd he (by simp)),λ_=>rfl⟩;have I1:=I.laid (a:=s.heap.objs.size) (o:=.own (s.heap.objs.size+1)) (h':=s.heap.push emptyDict) (t':=s.toks) (λb u q=>Α _ q) (le_refl _) ⟨_,e1⟩;refine I1.laid (a:=s.heap.objs.size+1) (o:=.ins C s.heap.objs.size []) (t':=s.toks) (λb u q=>Α _ q) (Nat.le_of_eq (ϓ _ _)) ?_;have ne:s.heap.objs.size≠s.heap.objs.size+1:=ne_of_lt (Nat.lt_succ_self _);refine⟨by rw[zai ne,zap],zero_le _,ne,e2,λ_=>Ψ,(Heap.Ns1.of_empty e3).at λo q=>Α _ q,λ_=>True.intro,λy hy=>absurd rfl hy⟩
def zoG(hb:attributeBase e f env (eval e env)=eval e env)(h:wpAny (model prog w) A (eval e env) (λo s₁=>wpAny (model prog w) A (getAttr o f Δ) Q E s₁) E s):wpAny (model prog w) A (eval (.Attribute e f pos) env) Q E s:=
 Attribute_any_ h (by rw[arm_eval_Attribute,hb])
end
abbrev tFld(K:Frag)(ta:TE)(f:Str):TE:=λσ H Q=>ta σ H λx H1=>∃a C dx fs v,x=.ref a/\H1 a=Φ (.ins C dx fs)/\Cls K C/\NoAttr K C f/\fs.lookup f=Φ v/\Q v H1
abbrev sFld(K:Frag)(ta tv:TE)(f:Str):TS:=λD σ H=>tv σ H λy H1=>ta σ H1 λx H2=>∃a C dx fs,x=.ref a/\H2 a=Φ (.ins C dx fs)/\Cls K C/\NoAttr K C f/\fs.length<1000/\
 D.nx σ (upd H2 a (.ins C dx (putF f y fs)))
section
variable{X:Cx}{o e value:Expr}{f:Str}{pos pos' tpos:Pos}{ta tv:TE}
def zp9(he:PE X e ta)(hb:attributeBase e f X.env (eval e X.env)=eval e X.env):PE X (.Attribute e f pos) (tFld X.K ta f):=by intro pins s σ H Q I h;refine zoG hb (thn (he pins s σ H _ I h) λu s1 z=>?_);let⟨x,H1,I1,rx,a,C,dx,fs,v,ex,ea,c,n,l,q⟩:=z;subst ex;obtain rfl:u=Ω.ref a:=rx;exact ziv I1 ea c n l λu' s2 I2 ru=>⟨v,H1,I2,ru,q⟩
def zpW(ha:PE X o ta)(hv:PE X value tv)(hs:swapsWith value (Φ (.Attribute o f pos')) pos.line X.env=pure Θ):PS X (.Assign [.Attribute o f pos'] value pos) (sFld X.K ta tv f):=by intro pins s σ H D I h;refine plainObj_wpAny_Assign_Attribute (thn (hv pins s σ H _ I h) λu s1 z=>eY z λy H1 I1 ry q=>thn (ha pins s1 σ H1 _ I1 q) λov s2 z=>?_) hs;let⟨x,H2,I2,rx,a,C,dx,fs,ex,ea,c,n,l,q2⟩:=z;subst ex;obtain rfl:ov=Ω.ref a:=rx;exact zhW I2 ea c n l ry λs3 I3=>⟨σ,_,I3,q2⟩
end
section
variable{X:Cx}{pins:List (Addr×Obj)}{σ:St}{H:Hp}{s:Ι}{A:ϔ}{E:Ω->Ι->Prop}{Q:Ω->Ι->Prop}{c:Ω}{b:Bool}
inductive TyOf(K:Frag)(H:Hp):V->Ω->Prop where
 |non:TyOf K H .non (.type "NoneType")
 |bl (x:Bool):TyOf K H (.bl x) (.type "bool")
 |int (i:Int):TyOf K H (.int i) (.type "int")
 |str (x:Str):TyOf K H (.str x) (.type "str")
 |flt (x:UInt64):TyOf K H (.flt x) (.type "float")
 |lst {a:Addr} {xs:List V} (e:H a=Φ (.lst xs)):TyOf K H (.ref a) (.type "list")
 |frz {a:Addr} {o:Obj} {xs:List V} (e:H a=Φ (.frz o (.lst xs))):TyOf K H (.ref a) (.type "list")
 |tup {a:Addr} {xs:List V} (e:H a=Φ (.tup xs)):TyOf K H (.ref a) (.type "tuple")
 |dK {a:Addr} {kvs:List (Key×V)} (e:H a=Φ (.dK kvs)):TyOf K H (.ref a) (.type "dict")
 |dT {a:Addr} {kvs:List (List Key×V)} (e:H a=Φ (.dT kvs)):TyOf K H (.ref a) (.type "dict")
 |ins {a C dx:Addr} {fs:List (Str×V)} (e:H a=Φ (.ins C dx fs)) (cl:Cls K C) (ha:findIn K (.ref C) "__class__"=Φ (Φ (.builtin "object.__class__")))
  (hn:specialIn K (.builtin "object.__class__") "__get__"=Φ (Φ (.builtin "getset_descriptor.__get__"))) (htk:takesIn K (.builtin "object.__class__")=Φ Δ)
  (hm:mroIn K C (.type "object")=Φ Δ):TyOf K H (.ref a) (.ref C)
def zj7(I:Inv X pins σ H s)(rx:RelV x u)(ty:TyOf X.K H x t)(e:kitOne X.K t c=Φ b)(h:∀tk,Q (.bool b) {s with toks:=tk}):
  wpAny (model X.prog X.w) A (call (.builtin "isinstance") [u,c]) Q E s:=by
 cases ty with|non=>cases(show u=Ω.none from rx);exact kia_one PySem.W.kitx_none I.kIn True.intro e (λz=>by cases z) h|bl y=>cases(show u=Ω.bool y from rx);exact kia_one PySem.W.kitx_bool I.kIn True.intro e (λz=>by cases z) h|int i=>let⟨t,q⟩:=(show ∃t,u=Ω.int i t from rx);cases q;exact kia_one PySem.W.kitx_int I.kIn True.intro e (λz=>by cases z) h|str y=>let⟨t,q⟩:=(show ∃t,u=Ω.str y t from rx);cases q;exact kia_one PySem.W.kitx_str I.kIn True.intro e (λz=>by cases z) h|flt y=>let⟨t,q⟩:=(show ∃t,u=Ω.float y t from rx);cases q;exact kia_one PySem.W.kitx_float I.kIn True.intro e (λz=>by cases z) h| @lst a xs ea=>cases(show u=Ω.ref a from rx);let⟨_,_,n,_,h1⟩:=(show ObjOk X.prog X.w H s.heap a (.lst xs) from I.hok a _ ea);exact kia_one kitx_list I.kIn ⟨_,h1,rfl⟩ e (λz=>by cases z) h| @frz a ob xs ea=>cases(show u=Ω.ref a from rx);let⟨_,_,_,n,_,h1⟩:=(show ObjOk X.prog X.w H s.heap a (.frz ob (.lst xs)) from I.hok a _ ea);exact kia_one kitx_list I.kIn ⟨_,h1,rfl⟩ e (λz=>by cases z) h| @tup a xs ea=>cases(show u=Ω.ref a from rx);let⟨_,_,_,p⟩:=(show ObjOk X.prog X.w H s.heap a (.tup xs) from I.hok a _ ea);let⟨o,h1,h2,_⟩:=p;exact kia_one PySem.W.kitx_tuple I.kIn ⟨o,h1,h2⟩ e (λz=>by cases z) h| @dK a kvs ea=>cases(show u=Ω.ref a from rx);let⟨_,_,vs,_,p⟩:=(show ObjOk X.prog X.w H s.heap a (.dK kvs) from I.hok a _ ea);let⟨o,es,ep,h1,h2,_⟩:=p;exact kia_one kitx_dict I.kIn ⟨o,h1,h2.1⟩ e (λz=>by cases z) h| @dT a kvs ea=>cases(show u=Ω.ref a from rx);let⟨_,_,xs,_,o,es,ep,h1,h2,_⟩:=(show ObjOk X.prog X.w H s.heap a (.dT kvs) from I.hok a _ ea);exact kia_one kitx_dict I.kIn ⟨o,h1,h2.1⟩ e (λz=>by cases z) h| @ins a C dx fs ea cl ha hn htk hm=>cases(show u=Ω.ref a from rx);let⟨mA,O,_⟩:=ins_get I.hok ea;let⟨od,J,_⟩:=O.look;exact kia_one (PySem.W.kitx_own (cl.get _) cl.hd ha hn htk hm) I.kIn J e (λz=>by cases z) h
end
structure Room(k:Nat)(A:ϔ):Prop where
 hd:A.handled=Ψ
 dp:A.depth+3*k+5<recursionLimit
 un:A.units+16*k+200<cLine
def Room.mono(r:Room k A)(h:j<=k):Room j A:=⟨r.hd,by have:=r.dp;lia,by have:=r.un;lia⟩
def Room.deeper(r:Room (k+1) A)(env):Room k (A.deeper env):=⟨r.hd,by have:=r.dp;show A.depth+1+3*k+5<_;lia,by have:=r.un;show A.units+3+16*k+200<_;lia⟩
def Room.in1(r:Room (k+1) A):Room k A.in1:=⟨r.hd,by have:=r.dp;show A.depth+3*k+5<_;lia,by have:=r.un;show A.units+1+16*k+200<_;lia⟩
def zim{A:ϔ}:(A.under (.builtin "type.__call__" ⟨.ref C::us,kw⟩)).depth=A.depth+1:=by first|rfl|simp[ϔ.under,Code.weight,Code.isCreation,Code.isGuard,Code.isCaller,Code.frames,Code.isFrame,guardIds]
def zil{A:ϔ}:(A.under (.builtin "type.__call__" ⟨.ref C::us,kw⟩)).units=A.units+1:=by first|rfl|simp[ϔ.under,Code.cUnits,Code.frames,Code.isFrame]
def Room.make(r:Room (k+1) A)(C)(us)(kw):Room k (A.under (.builtin "type.__call__" ⟨.ref C::us,kw⟩)):=⟨r.hd,by have:=r.dp;rw[zim];lia,by have:=r.un;rw[zil];lia⟩
def Room.depth(r:Room k A):A.depth<recursionLimit:=by have:=r.dp;lia
def Room.units(r:Room k A):A.units+64<cLine:=by have:=r.un;lia
abbrev tNil:TA:=λ_ H Q=>Q [] H
abbrev zpa(ta:TE)(tr:TA):TA:=λσ H Q=>ta σ H λx H1=>tr σ H1 λxs H2=>Q (x::xs) H2
section
variable{X:Cx}{e:Expr}{es:List Expr}{te:TE}{t:TA}{pos:Pos}
def zjx:PA X [] tNil:=λ_ _ _ _ H Q I h=>Calls.spliced_nil ⟨[],H,I,.nil,h⟩
def zdA(ha:PE X e te)(hr:PA X es t)(hs:starEach (e::es) X.env=(Θ,eval e X.env)::starEach es X.env:=by rfl):PA X (e::es) (zpa te t):=by intro pos pins s σ H Q I h;rw[hs];show wpAny _ _ (spliced ((Θ,eval e X.env)::backTo pos (starEach es X.env))) _ _ s;refine Calls.spliced_cons (thn (ha pins s σ H _ I h) λu s1 z=>?_);let⟨x,H1,I1,r1,q1⟩:=z;exact thn (hr pos pins s1 σ H1 _ I1 q1) λus s2 k=>(by let⟨xs,H2,I2,r2,q2⟩:=k;exact ⟨x::xs,H2,I2,.cons r1 r2,q2⟩)
abbrev tTup(t:TA):TE:=λσ H Q=>t σ H λxs H1=>xs.length<=sizeLine/\∀p,H1 p=Ψ->Q (.ref p) (upd H1 p (.tup xs))
abbrev tLst(t:TA):TE:=λσ H Q=>t σ H λxs H1=>xs.length<=sizeLine/\∀p,H1 p=Ψ->Q (.ref p) (upd H1 p (.lst xs))
def zp1(h:PA X es t):PE X (.Tuple es x1 pos) (tTup t):=by intro pins s σ H Q I hq;refine wpAny_Tuple_spliced (thn (h pos pins s σ H _ I hq) λus s1 ⟨xs,H1,I1,r,z,q⟩=>⟨by rw[<-r.length];exact z,?_⟩);have hf:H1 s1.heap.objs.size=Ψ:=I1.hok.fresh (le_refl _);refine⟨.ref s1.heap.objs.size,upd H1 s1.heap.objs.size (.tup xs),I1.laid (t':=s1.toks) (λb u e=>Α _ e) (le_refl _) ?_,rfl,q _ hf⟩;exact⟨z,us,r,⟨_,Μ _ rfl,rfl,_,rfl⟩⟩
def zp6(h:PA X es t):PE X (.List es pos) (tLst t):=by intro pins s σ H Q I hq;refine wpAny_List_spliced (thn (h pos pins s σ H _ I hq) λus s1 ⟨xs,H1,I1,r,z,q⟩=>⟨by rw[<-r.length];exact z,?_⟩);have hf:H1 s1.heap.objs.size=Ψ:=I1.hok.fresh (le_refl _);refine⟨.ref s1.heap.objs.size,upd H1 s1.heap.objs.size (.lst xs),I1.laid (t':=s1.toks) (λb u e=>Α _ e) (le_refl _) ?_,rfl,q _ hf⟩;exact⟨z,us,0,r,Μ _ rfl⟩
end
@[reducible]def Sp:=List V->Hp->VK->XK->Prop
@[reducible]def CXT:=List Env->Hp->Ι->XK->Ω->Ι->Prop
structure Env0(P:Χ)(w:ϒ)(K:Frag)(mg:Str->Option Ω)(base:Heap)(A:ϔ)(outer:List Env)(s:Ι)(H:Hp):Prop where
 frames:A.frames=Φ outer
 mod:Mod K mg base
 bs:∀b o,base.get? b=Φ o->s.heap.get? b=Φ o/\H b=Ψ
 bsz:base.objs.size<=s.heap.objs.size
 funs:s.heap.FunFrames base outer
 frf:∀b∈frs outer,H b=Ψ
 hok:HOk P w H s.heap
 bare:AllBare s.gens
abbrev CE(outer:List Env)(P:Χ)(w:ϒ)(H:Hp)(s:Ι)(Q:VK)(u:Ω)(s':Ι):Prop:=∃v H',s'.os=s.os/\AllBare s'.gens/\Un (frs outer) [] H H' s.heap s'.heap/\HOk P w H' s'.heap/\RelV v u/\Q v H'
abbrev CR(CX:CXT)(outer:List Env)(P:Χ)(w:ϒ)(H:Hp)(s:Ι)(Q:VK)(E:XK)(r:Result)(s':Ι):Prop:=match r with|.ok (.ret u)=>CE outer P w H s Q u s'|.ok _=>False|.error e=>CX outer H s E e s'
structure FnOk(P:Χ)(w:ϒ)(K:Frag)(mg:Str->Option Ω)(base:Heap)(CX:CXT)(k:Nat)(f:Addr)(fd:FuncData)(ps:List Str)(sp:Sp):Prop where
 len:∀vs H Q E,sp vs H Q E->vs.length=ps.length
 run:∀(A:ϔ)(outer:List Env)(s:Ι)(H:Hp)(args:Args)(us:List Ω)(vs:List V)(Q:VK)(E:XK),Room k A->Env0 P w K mg base A outer s H->BindsTo s fd args (ps.zip us)->Vals vs us->sp vs H Q E->
  codeAny (model P w) A (.call (.ref f) args) (CR CX outer P w H s Q E) s
def FnOk.mono{K}(F:FnOk P w K b base CX j f fd ps sp)(h:j<=k):
 FnOk P w K b base CX k f fd ps sp:=⟨F.len,λA a s H args c d Q E e=>F.run A a s H args c d Q E (e.mono h)⟩
def Env0.make{K}(e:Env0 P w K a base A outer s H)(C)(us)(b):
 Env0 P w K a base (A.under (.builtin "type.__call__" ⟨.ref C::us,b⟩)) outer s H:=⟨by first|exact e.frames|(simpa[ϔ.under,Code.envs,Code.isFrame,pushEnvs]using e.frames),e.mod,e.bs,e.bsz,e.funs,e.frf,e.hok,e.bare⟩
def Env0.in1{K}(e:Env0 P w K a base A outer s H):
 Env0 P w K a base A.in1 outer s H:=⟨e.frames,e.mod,e.bs,e.bsz,e.funs,e.frf,e.hok,e.bare⟩
section
variable{X:Cx}{pins:List (Addr×Obj)}{σ:St}{H:Hp}{s s':Ι}
def Inv.env0(I:Inv X pins σ H s):Env0 X.prog X.w X.K X.mg X.base X.A X.stack s H:=⟨I.ok.frames,I.ok.mod,I.bs,le_trans I.ok.bsz I.sz,I.stack,I.stkFree,I.hok,I.bare⟩
def Inv.after(I:Inv X pins σ H s)(h:CE X.stack X.prog X.w H s Q u s'):EP X pins σ Q u s':=by let⟨v,f,os,a,i,c,r,q⟩:=h;let⟨j,g,d,t,e⟩:=s';obtain rfl:e=s.os:=os;exact⟨v,f,I.call (h':=j) (g':=g) (d':=d) (t':=t) (ch:=[]) i c a (λb z=>absurd z (by simp)),r,q⟩
end
abbrev ziX(sp:Sp)(dvs:List V)(E:XK)(t:TA):TE:=λσ H Q=>t σ H λvs H1=>sp (vs++dvs) H1 Q E
abbrev zmZ(C:Addr)(sp:Sp)(dvs:List V)(E:XK)(t:TA):TE:=λσ H Q=>t σ H λvs H1=>∀x dx,H1 x=Ψ->H1 dx=Ψ->dx≠x->
 sp (.ref x::(vs++dvs)) (upd (upd H1 dx (.own x)) x (.ins C dx [])) (λv H2=>v=.non/\Q (.ref x) H2) E
abbrev Binds(K:Frag)(fd:FuncData)(ps:List Str)(ds:List Ω):Prop:=∀(s:Ι)(us:List Ω),K.In s.heap->(us++ds).length=ps.length->BindsTo s fd ⟨us,[]⟩ (ps.zip (us++ds))
def Binds.all{K}(h:∀us:List Ω,us.length=ps.length->bindArgs fd ⟨us,[]⟩=pure (ps.zip us)):Binds K fd ps []:=λs us _ a=>by rw[append_nil]at a⊢;exact .of_eq (h us a)
abbrev zd1(CX:CXT)(X:Cx)(E:XK):Prop:=∀(pins:List (Addr×Obj))(σ:St)(H:Hp)(s:Ι)(e:Ω)(s':Ι),Inv X pins σ H s->CX X.stack H s E e s'->X.xe e s'
section
variable{X:Cx}{CX:CXT}{k:Nat}{f C:Addr}{fd:FuncData}{ps:List Str}{sp:Sp}{dvs:List V}{ds:List Ω}{E:XK}{x m:Str}{p pos apos:Pos}{e o:Expr}{es:List Expr}{ta:TE}{t:TA}
def zhg(F:FnOk X.prog X.w X.K X.mg X.base CX k f fd ps sp)(hr:Room k X.A)(hb:Binds X.K fd ps ds)(hd:Vals dvs ds)(hx:zd1 CX X E)(I:Inv X pins σ H s)(r:Vals vs us)(h:sp (vs++dvs) H Q E):wpAny (model X.prog X.w) X.A (call (.ref f) us) (EP X pins σ Q) X.xe s:=by
 have r2:Vals (vs++dvs) (us++ds):=r.append hd;have hl:(us++ds).length=ps.length:=by rw[<-r2.length];exact F.len _ _ _ _ h
 refine wpAny_call (ϩ (F.run X.A X.stack s H ⟨us,[]⟩ (us++ds) (vs++dvs) Q E hr I.env0 (hb s us I.kIn hl) r2 h) λr s' hq=>?_);cases r with|error e=>exact hx pins σ H s e s' I hq| ok fl=>cases fl with|ret u=>exact I.after hq|next=>exact False.elim hq|brk=>exact False.elim hq|cont=>exact False.elim hq
def znO(F:FnOk X.prog X.w X.K X.mg X.base CX k f fd ps sp)(hr:Room k X.A)(hg:Gl X x)(hm:X.mg x=Φ (.ref f))(hk:keepIn X.K (.ref f)=Δ)(hb:Binds X.K fd ps ds)(hd:Vals dvs ds)(hx:zd1 CX X E)
  (ha:PA X (e::es) t) (hdb:(x==("__debug__":Str))=Θ:=by decide) (he:starEach (e::es) X.env=(Θ,eval e X.env)::starEach es X.env:=by rfl) (hpl:(backTo pos (starEach es X.env)).any (·.1)=Θ:=by rfl) :
  PE X (.Call (.Name x p) (e::es) [] pos) (ziX sp dvs E t):=by
 intro pins s σ H Q I h;refine wpAny_Call_Name_kw (zdI I hg hm ?_ hdb);refine callWith_K (h₀:=X.base) I.ok.mod.kin hk (thn (ha pos pins s σ H _ I h) λus s1 z=>eY z λvs H1 I1 r q=>⟨I1.kIn,?_⟩) he hpl;exact zhg F hr hb hd hx I1 r q
def zlx(F:FnOk X.prog X.w X.K X.mg X.base CX k f fd ps sp)(hr:Room k X.A)(hg:Gl X x)(hm:X.mg x=Φ (.ref f))(hk:keepIn X.K (.ref f)=Δ)(hb:Binds X.K fd ps ds)(hd:Vals dvs ds)(hx:zd1 CX X E)
  (hdb:(x==("__debug__":Str))=Θ:=by decide):PE X (.Call (.Name x p) [] [] pos) (ziX sp dvs E tNil):=by
 intro pins s σ H Q I h;refine wpAny_Call_Name_kw (zdI I hg hm ?_ hdb);exact callWith_K0 I.kIn hk (zhg (us:=[]) F hr hb hd hx I .nil h)
structure Mk(K:Frag)(C f:Addr):Prop where
 makes:makesIn K C=Δ
 init:findIn K (.ref C) "__init__"=Φ (Φ (.ref f))
 fn:isFn K (.ref f)=Δ
 kp:keepIn K (.ref C)=Δ
def zhe(M:Mk X.K C f)(F:FnOk X.prog X.w X.K X.mg X.base CX k f fd ps sp)(hr:Room (k+1) X.A)(hb:Binds X.K fd ps ds)(hd:Vals dvs ds)(hx:zd1 CX X E)(I:Inv X pins σ H s)(r:Vals vs us)(h:∀x dx,H x=Ψ->H dx=Ψ->dx≠x->sp (.ref x::(vs++dvs)) (upd (upd H dx (.own x)) x (.ins C dx [])) (λv H2=>v=.non/\Q (.ref x) H2) E):
  wpAny (model X.prog X.w) X.A (call (.ref C) us) (EP X pins σ Q) X.xe s:=by
 have hq:=h (s.heap.objs.size+1) s.heap.objs.size (I.hok.fresh (le_succ _)) (I.hok.fresh (le_refl _)) (ne_of_lt (Nat.lt_succ_self _));have I2:=Inv.made (C:=C) I;have r2:Vals (V.ref (s.heap.objs.size+1)::(vs++dvs)) (Ω.ref (s.heap.objs.size+1)::(us++ds)):=.cons rfl (r.append hd);have hl:(Ω.ref (s.heap.objs.size+1)::us++ds).length=ps.length:=by have e:=r2.length;rw[F.len _ _ _ _ hq]at e;exact e.symm
 refine wpAny_call (zlC (f:=f) I.kIn M.makes M.init (beq_iff_eq.mp M.fn) (ϩ (F.run _ X.stack _ _ ⟨Ω.ref (s.heap.objs.size+1)::us,[]⟩ (Ω.ref (s.heap.objs.size+1)::(us++ds)) _ _ E (hr.make C us [])
  (I2.env0.make C us []) (hb _ (Ω.ref (s.heap.objs.size+1)::us) I2.kIn hl) r2 hq) λr s' hq'=>?_))
 cases r with|error e=>exact hx pins σ _ _ e s' I2 hq'| ok fl=>cases fl with| ret u=>let⟨v,H',I3,rv,ev,q3⟩:=I2.after hq';subst ev;exact⟨rv,⟨V.ref (s.heap.objs.size+1),H',I3,rfl,q3⟩⟩|next=>exact False.elim hq'|brk=>exact False.elim hq'|cont=>exact False.elim hq'
def znL(M:Mk X.K C f)(F:FnOk X.prog X.w X.K X.mg X.base CX k f fd ps sp)(hr:Room (k+1) X.A)(hg:Gl X x)(hm:X.mg x=Φ (.ref C))(hb:Binds X.K fd ps ds)(hd:Vals dvs ds)(hx:zd1 CX X E)
  (ha:PA X (e::es) t) (hdb:(x==("__debug__":Str))=Θ:=by decide) (he:starEach (e::es) X.env=(Θ,eval e X.env)::starEach es X.env:=by rfl) (hpl:(backTo pos (starEach es X.env)).any (·.1)=Θ:=by rfl) :
  PE X (.Call (.Name x p) (e::es) [] pos) (zmZ C sp dvs E t):=by
 intro pins s σ H Q I h;refine wpAny_Call_Name_kw (zdI I hg hm ?_ hdb);refine callWith_K (h₀:=X.base) I.ok.mod.kin M.kp (thn (ha pos pins s σ H _ I h) λus s1 z=>eY z λvs H1 I1 r q=>⟨I1.kIn,?_⟩) he hpl;exact zhe M F hr hb hd hx I1 r q
def zls(M:Mk X.K C f)(F:FnOk X.prog X.w X.K X.mg X.base CX k f fd ps sp)(hr:Room (k+1) X.A)(hg:Gl X x)(hm:X.mg x=Φ (.ref C))(hb:Binds X.K fd ps ds)(hd:Vals dvs ds)(hx:zd1 CX X E)
  (hdb:(x==("__debug__":Str))=Θ:=by decide):PE X (.Call (.Name x p) [] [] pos) (zmZ C sp dvs E tNil):=by
 intro pins s σ H Q I h;refine wpAny_Call_Name_kw (zdI I hg hm ?_ hdb);exact callWith_K0 I.kIn M.kp (zhe (us:=[]) M F hr hb hd hx I .nil h)
end
section
variable{X:Cx}{CX:CXT}{k:Nat}{f C:Addr}{fd:FuncData}{ps ks:List Str}{sp:Sp}{E:XK}{x m:Str}{p pos apos kpos:Pos}{e o:Expr}{es:List Expr}{kws:List Keyword}{te ta:TE}{t tk:TA}{nm:Option Str}
structure KBinds(K:Frag)(fd:FuncData)(ps ks:List Str)(g:List Ω->List Ω->List Ω)(gV:List V->List V->List V):Prop where
 to:∀(s:Ι)(us ws:List Ω),K.In s.heap->(g us ws).length=ps.length->BindsTo s fd ⟨us,ks.zip ws⟩ (ps.zip (g us ws))
 rel:∀{vs:List V}{us:List Ω}{zs:List V}{ws:List Ω},Vals vs us->Vals zs ws->Vals (gV vs zs) (g us ws)
end
structure FnScope(N P:List Str)(sc:Scope):Prop where
 kind:sc.kind=.function
 co:sc.isCoroutine=Θ
 gen:sc.isGenerator=Θ
 nd:N.Nodup
 pre:N.take P.length=P
 par:∀x∈P,sc.names.lookup x=Φ .local\/sc.names.lookup x=Φ .cell
 nofree:∀y∈sc.names,y.2≠.free
def zgh{kindOf}:∀{binds:List (Str×Ω)}{m:Str->Option Ω},(∀v,(x,v)∉binds)->bindL kindOf binds m x=m x
 | [],_,_=>rfl| (n,v)::r,m,h=>by
  unfold bindL;rw[zgh λw hw=>h w (Ρ _ hw)];split;have:x≠n:=by rintro rfl;exact h v Υ
  simp[this];rfl
def zgj{kindOf}:∀{binds:List (Str×Ω)}{m:Str->Option Ω},(∀v,(x,v)∉binds)->bindC kindOf binds m x=m x
 | [],_,_=>rfl| (n,v)::r,m,h=>by
  unfold bindC;rw[zgj λw hw=>h w (Ρ _ hw)];split;rfl;have:x≠n:=by rintro rfl;exact h v Υ
  simp[this]
def zgi{kindOf}:∀{P:List Str}{vs:List Ω}{i:Nat}{m:Str->Option Ω},P.Nodup->P[i]?=Φ x->vs[i]?=Φ v->kindOf x=Φ .local->
  bindL kindOf (P.zip vs) m x=Φ v
 | [],_,_,_,_,h,_,_=>by simp at h|_::_,[],_,_,_,_,h,_=>by simp at h| p::P,w::vs,0,m,nd,h1,h2,hk=>by simp at h1 h2;subst h1;subst h2;show bindL kindOf ((p,w)::P.zip vs) m p=_;unfold bindL;rw[zgh λv hv=>(nodup_cons.mp nd).1 (List.of_mem_zip hv).1,if_pos hk];simp| p::P,w::vs,i+1,m,nd,h1,h2,hk=>by show bindL kindOf ((p,w)::P.zip vs) m x=_;unfold bindL;exact zgi (i:=i) (nodup_cons.mp nd).2 (by simpa using h1) (by simpa using h2) hk
def zgk{kindOf}:∀{P:List Str}{vs:List Ω}{i:Nat}{m:Str->Option Ω},P.Nodup->P[i]?=Φ x->vs[i]?=Φ v->kindOf x≠Φ .local->
  bindC kindOf (P.zip vs) m x=Φ v
 | [],_,_,_,_,h,_,_=>by simp at h|_::_,[],_,_,_,_,h,_=>by simp at h| p::P,w::vs,0,m,nd,h1,h2,hk=>by simp at h1 h2;subst h1;subst h2;show bindC kindOf ((p,w)::P.zip vs) m p=_;unfold bindC;rw[zgj λv hv=>(nodup_cons.mp nd).1 (List.of_mem_zip hv).1,if_neg hk];simp| p::P,w::vs,i+1,m,nd,h1,h2,hk=>by show bindC kindOf ((p,w)::P.zip vs) m x=_;unfold bindC;exact zgk (i:=i) (nodup_cons.mp nd).2 (by simpa using h1) (by simpa using h2) hk
abbrev start(N:List Str)(vs:List V):St:=vs.map Φ++List.replicate (N.length-vs.length) Ψ
abbrev cxOf(CX:CXT)(P:Χ)(w:ϒ)(K:Frag)(mg:Str->Option Ω)(base:Heap)(N:List Str)(qual:Str)(scope:Scope)(f:Addr)(cd:Ω)(A:ϔ)(outer:List Env)(s:Ι)(H:Hp)(E:XK):Cx where
 prog:=P
 w:=w
 K:=K
 mg:=mg
 base:=base
 A:=A.deeper (envOfC qual scope s.heap.objs.size f cd)
 N:=N
 s₀:=s
 H₀:=H
 env:=envOfC qual scope s.heap.objs.size f cd
 outer:=outer
 stack:=envOfC qual scope s.heap.objs.size f cd::outer
 ex:=[]
 calm:=Δ
 fn:=λ_=>Δ
 pn:=[]
 xe:=λe s'=>wpAny (model P w) (A.deeper (envOfC qual scope s.heap.objs.size f cd)) (leaving (envOfC qual scope s.heap.objs.size f cd) e) (λ_ s''=>CX outer H s E e s'') (λe' s''=>CX outer H s E e' s'') s'
def zhK{sc:Scope}(h:sc.names.lookup x=Φ .cell):∃c,(cellsFrom n sc.names []).lookup x=Φ c:=by have q:=PySem.W.cellsFrom_some sc.names n [] (.inl h);exact Option.isSome_iff_exists.mp q
def zkc{K}(S:FnScope N ps scope)(hd:A.handled=Ψ)(e0:Env0 P w K mg base A outer s H)(hl:vs.length=ps.length)(r:Vals vs us)(x:InCallC s s.heap.objs.size (bindL (envOfC qual scope s.heap.objs.size f cd).kindOf (ps.zip us) λ_=>Ψ) (cellsFrom (s.heap.objs.size+1) scope.names []) (bindC (envOfC qual scope s.heap.objs.size f cd).kindOf (ps.zip us) λ_=>Ψ) s1):
  Inv (cxOf CX P w K mg base N qual scope f cd A outer s H E) [] (start N vs) H s1:=by
 have hpl:ps.length<=N.length:=by have:=congrArg List.length S.pre;rw[length_take]at this;lia
 let⟨h1,tk,rfl,hk⟩:=x.done;have noA:∀b:Addr,b∉(cxOf CX P w K mg base N qual scope f cd A outer s H E).ex:=λb z=>absurd (show b∈([]:List Addr) from z) (by simp);refine⟨⟨e0.mod,S.kind,rfl,rfl,le_refl _,λy z c h1 h2=>?_,λy hy=>?_,λy c _ h=>?_,λ_=>hd,ϔ.frames_deeper e0.frames,.inr ⟨rfl,rfl⟩,λb z=>absurd z (noA b),e0.bs,e0.bsz,λb _ _=>noA b,λb z=>absurd z (noA b),e0.funs,e0.frf⟩,
  rfl,e0.bare,Un.kept hk,⟨_,x.toInCall.ns,λi y v h1 h2 h3=>?_⟩,λy c h=>⟨_,x.cell y c h⟩,e0.hok.fresh (le_refl _),λy c h=>?_,λp hp=>absurd (show p∈([]:List (Addr×Obj)) from hp) (by simp),e0.hok.kept hk,?_⟩
 exact name_of_addr x.apart (PySem.mem_of_lookup h1) (PySem.mem_of_lookup h2);have hy:scope.names.lookup y=Φ .cell\/scope.names.lookup y=Φ .free:=hy;rcases hy with hy|hy;exact zhK hy;exact absurd rfl (S.nofree _ (PySem.mem_of_lookup hy));exact le_of_lt (x.above y c (PySem.mem_of_lookup h));have hi:i<vs.length:=by
  unfold start at h2;by_cases hi:i<vs.length;exact hi
  . rw[getElem?_append_right (by simpa using hi)]at h2;rw[List.getElem?_replicate]at h2;split at h2<;>cases h2
 have ha:vs[i]?=Φ v:=by
  unfold start at h2;rw[getElem?_append_left (by simpa using hi),getElem?_map]at h2;cases e:vs[i]? with
  |none=>rw[e]at h2;exact nS h2
  |some a=>rw[e]at h2;cases h2;rfl
 let⟨u,hu,rv⟩:=r.get ha;have hp:ps[i]?=Φ y:=by rw[<-S.pre,List.getElem?_take_of_lt (by lia)];exact h1
 have ndP:ps.Nodup:=by rw[<-S.pre];exact S.nd.sublist (List.take_sublist _ _)
 refine⟨u,rv,?_⟩;rcases S.par y (mem_of_getElem? hp) with k|k;exact .inl ⟨k,zgi ndP hp hu k⟩;let⟨c,e⟩:=zhK (n:=s.heap.objs.size+1) k;refine .inr ⟨.inl k,c,e,?_⟩;have q:=x.cell y c e;rw[zgk ndP hp hu (by show scope.names.lookup y≠_;rw[k];decide)]at q;exact q;exact e0.hok.fresh (le_of_lt (x.above y c (PySem.mem_of_lookup h)));unfold start;show _=N.length;rw[length_append,length_map,length_replicate];lia
def zsf{K}{dV kV doc pm cdv ct oc}(lk:K.lookup f=Φ ⟨oc,od,.func (fnOf name qual params body scope dV kV doc pm an cdv ct),osl⟩)(hcd:codeIn K cdv qual=Δ)(S:FnScope N ps scope)(len:∀vs H Q E,sp vs H Q E->vs.length=ps.length)(hbody:∀(A:ϔ)(outer:List Env)(s:Ι)(H:Hp)(vs:List V)(Q:VK)(E:XK),Room k (A.deeper (envOfC qual scope s.heap.objs.size f cdv))->sp vs H Q E->
   ∃t,PSs (cxOf CX P w K mg base N qual scope f cdv A outer s H E) body t/\t {nx:=λ_ H'=>Q .non H',rt:=Q} (start N vs) H):
  FnOk P w K mg base CX (k+1) f (fnOf name qual params body scope dV kV doc pm an cdv ct) ps sp:=by
 refine⟨len,λA outer s H args us vs Q E hr e0 hb r hsp=>?_⟩;have hl:=len _ _ _ _ hsp;have KX:K.In s.heap:=e0.mod.kin.keeps λb o e=>(e0.bs b o e).1;have lim:s.heap.NoLimit:=e0.mod.nolimit.keeps λb o e=>(e0.bs b o e).1;have hkind:∀y∈ps.zip us,scope.names.lookup y.1=Φ .local\/(scope.names.lookup y.1=Φ .cell/\((cellsFrom (s.heap.objs.size+1) scope.names []).lookup y.1).isSome=Δ):=λ⟨n,v⟩ hy=>by rcases S.par n (List.of_mem_zip hy).1 with q|q;exact .inl q;exact .inr ⟨q,PySem.W.cellsFrom_some _ _ _ (.inl q)⟩
 refine codeAny_call_function hr.depth (KX _ _ lk) rfl S.co S.gen rfl (PySem.W.codeRec_of KX hcd) (hb _ _ _ _ ?_);refine wpAny_newFunctionEnv_cells S.kind hkind λenv he s1 x=>?_;subst he;refine⟨lim.keeps x.toInCall.keep,codeAny_func ?_⟩;let⟨t,ht,hq⟩:=hbody A outer s H vs Q E (hr.deeper _) hsp;have I:Inv (cxOf CX P w K mg base N qual scope f cdv A outer s H E) [] (start N vs) H s1:=zkc S hr.hd e0 hl r x;refine Ϥ (ht [] s1 (start N vs) H _ I hq) (λfl s' hs=>?_) λe s' hs=>hs;have fin:∀{σ':St}{H':Hp}{v:V}{u:Ω},Inv (cxOf CX P w K mg base N qual scope f cdv A outer s H E) [] σ' H' s'->RelV v u->Q v H'->CE outer P w H s Q u s':=λ{σ' H' v u} J rv q=>⟨v,H',J.os,J.bare,J.base,J.hok,rv,q⟩;cases fl with| ret u=>let⟨v,σ',H',J,rv,q⟩:=hs;exact fin J rv q| next=>let⟨σ',H',J,q⟩:=hs;exact fin (v:=V.non) (u:=Ω.none) J rfl q| brk=>let⟨_,_,_,q⟩:=hs;exact False.elim q| cont=>let⟨_,_,_,q⟩:=hs;exact False.elim q
section
variable{X:Cx}{x:Str}{p pos:Pos}{e:Expr}{es:List Expr}{t:TA}{id T:String}{r:List V->Hp->VK->Prop}
abbrev tCB(r:List V->Hp->VK->Prop)(t:TA):TE:=λσ H Q=>t σ H λvs H1=>r vs H1 Q
def zb1(hc:za0 X (.builtin id) r)(hg:Gl X x)(hm:X.mg x=Ψ)(hv:bootBuiltins x=Φ (.builtin id))(ha:PA X (e::es) t)(hn:x≠"__name__":=by decide)(hdb:(x==("__debug__":Str))=Θ:=by decide)
  (he:starEach (e::es) X.env=(Θ,eval e X.env)::starEach es X.env:=by rfl) (hpl:(backTo pos (starEach es X.env)).any (·.1)=Θ:=by rfl):PE X (.Call (.Name x p) (e::es) [] pos) (tCB r t):=by
 intro pins s σ H Q I h;refine wpAny_Call_Name_kw (zek I hg hm hv ?_ hn hdb);exact PyProof.Rows.callWith_builtin1 (thn (ha pos pins s σ H _ I h) λus s1 z=>(by let⟨vs,H1,I1,r1,q1⟩:=z;exact hc pins s1 σ H1 vs us Q I1 r1 q1)) he hpl
def zaO(hc:za0 X (.type T) r)(hg:Gl X x)(hm:X.mg x=Ψ)(hv:bootBuiltins x=Φ (.type T))(ha:PA X (e::es) t)(hn:x≠"__name__":=by decide)(hdb:(x==("__debug__":Str))=Θ:=by decide)
  (he:starEach (e::es) X.env=(Θ,eval e X.env)::starEach es X.env:=by rfl) (hpl:(backTo pos (starEach es X.env)).any (·.1)=Θ:=by rfl):PE X (.Call (.Name x p) (e::es) [] pos) (tCB r t):=by
 intro pins s σ H Q I h;refine wpAny_Call_Name_kw (zek I hg hm hv ?_ hn hdb);exact PyProof.Rows.callWith_type1 (thn (ha pos pins s σ H _ I h) λus s1 z=>(by let⟨vs,H1,I1,r1,q1⟩:=z;exact hc pins s1 σ H1 vs us Q I1 r1 q1)) he hpl
end
section
variable{κ:Type}[DecidableEq κ]
abbrev valV(kvs:List (κ×V))(k:κ):Option V:=(kvs.find? λkv=>decide (kv.1=k)).map (·.2)
abbrev putK(kvs:List (κ×V))(k:κ)(v:V):List (κ×V):=if(kvs.any λkv=>decide (kv.1=k))=Δ then kvs.map (λkv=>if kv.1=k then(kv.1,v) else kv) else kvs++[(k,v)]
def zg3{k:κ}(e:p.1=k):valV (p::r) k=Φ p.2:=by simp[valV,List.find?_cons,e]
def zg4{k:κ}(e:¬p.1=k):valV (p::r) k=valV r k:=by simp[valV,List.find?_cons,e]
def zg5(k):∀kvs:List (κ×V),(kvs.any λkv=>decide (kv.1=k))=(valV kvs k).isSome
 | []=>rfl| p::r=>by rw[any_cons];by_cases e:p.1=k;simp![zg3 e,decide_eq_true e,Bool.true_or,Option.isSome_some];rw[zg4 e,decide_eq_false e,Bool.false_or];exact zg5 k r
def zdG(kvs)(k:κ)(v):(putK kvs k v).length<=kvs.length+1:=by unfold putK;split;rw[length_map];lia;rw[length_append,length_cons,length_nil];lia
def RelO.isSome_eq(r:RelO o u):o.isSome=u.isSome:=by
 cases o with
 |none=>cases u with
  |none=>rfl|some _=>exact(show False from r).elim
 |some _=>cases u with|none=>exact(show False from r).elim|some _=>rfl
def KV.any(r:KV kvs vs)(k:κ):(kvs.any λa=>decide (a.1=k))=vs.any λa=>decide (a.1=k):=by unfold KV at r;induction r with|nil=>rfl|cons h t b=>rw[any_cons,any_cons,b,h.1]
def KV.repl(r:KV kvs vs)(k:κ)(c:RelV y u):
  KV (kvs.map λa=>if a.1=k then(a.1,y) else a) (vs.map λa=>if a.1=k then(a.1,u) else a):=by
 unfold KV at r⊢;induction r with|nil=>exact .nil| @cons p q g i h t d=>rw[ϊ,ϊ];refine .cons ?_ d;let⟨b,f⟩:=h;by_cases e:p.1=k;rw[if_pos e,if_pos (b.symm.trans e)];exact⟨b,c⟩;rw[if_neg e,if_neg (λz=>e (b.trans z))];exact⟨b,f⟩
def KV.put(r:KV kvs vs)(k:κ)(a:RelV y u):KV (putK kvs k y) (stored vs k u):=by unfold putK stored;rw[r.any k];by_cases e:(vs.any λb=>decide (b.1=k))=Δ;rw[if_pos e,if_pos e];exact r.repl k a;rw[if_neg e,if_neg e];exact Paired.snoc r ⟨rfl,a⟩
def KV.length{vs:List (κ×Ω)}(r:KV kvs vs):kvs.length=vs.length:=Paired.length r
end
def zqP(r:RelV (kV k) u):(zaf P w).is k u=Δ:=by cases k with|inl i=>let⟨t,e⟩:=(show ∃t,u=Ω.int i t from r);subst e;exact zgN P w i t|inr x=>let⟨t,e⟩:=(show ∃t,u=Ω.str x t from r);subst e;exact zgM P w x t
def zfT:∀{ks:List Key}{us:List Ω},Vals (ks.map kV) us->ItemsAre (zaf P w) ks us
 | [],_,r=>by rw[map_nil]at r;cases r;exact .nil| k::ks,_,r=>by rw[ϊ]at r;cases r with|cons h t=>exact .cons (zqP h) (zfT t)
@[reducible]def KT(H:Hp):List (List Key×V)->List (List Key×Addr×Ω)->Prop:=Paired λp q=>p.1=q.1/\H q.2.1=Φ (.tup (p.1.map kV))/\RelV p.2 q.2.2
def KT.val(r:KT H kvs xs)(k):RelO (valV kvs k) ((atKey xs k).map (·.2)):=by
 induction r with
 |nil=>exact True.intro| @cons p q i a h t f=>
  let⟨d,_,g⟩:=h;by_cases e:p.1=k;have c:q.1=k:=d.symm.trans e;have b:atKey (q::a) k=Φ q.2:=by simp[atKey,List.find?_cons,c]
  rw[zg3 e,b];exact g;have c:¬q.1=k:=λz=>e (d.trans z);have b:atKey (q::a) k=atKey a k:=by simp[atKey,List.find?_cons,c]
  rw[zg4 e,b];exact f
def KT.repl(r:KT H kvs xs)(k)(d:RelV y u):
  KT H (kvs.map λb=>if b.1=k then(b.1,y) else b) (xs.map (putAt k u)):=by
 induction r with|nil=>exact .nil| @cons p q i j h t f=>rw[ϊ,ϊ];refine .cons ?_ f;let⟨a,c,g⟩:=h;unfold putAt;by_cases e:p.1=k;rw[if_pos e,if_pos (a.symm.trans e)];exact⟨a,c,d⟩;rw[if_neg e,if_neg (λz=>e (a.trans z))];exact⟨a,c,g⟩
def KT.put(r:KT H kvs xs)(k)(hb:H b=Φ (.tup (k.map kV)))(ry:RelV y u):
  KT H (putK kvs k y) (storedH xs k b u):=by
 have e:(kvs.any λkv=>decide (kv.1=k))=(atKey xs k).isSome:=by rw[zg5,(r.val k).isSome_eq,Option.isSome_map]
 unfold putK storedH;rw[e];by_cases q:(atKey xs k).isSome=Δ;rw[if_pos q,if_pos q];exact r.repl k ry;rw[if_neg q,if_neg q];exact Paired.snoc r ⟨rfl,hb,ry⟩
def KT.keeps(r:KT H kvs xs)(a:∀b ys,H b=Φ (.tup ys)->H' b=Φ (.tup ys)):KT H' kvs xs:=Paired.mapP r λ_ _ z=>⟨z.1,a _ _ z.2.1,z.2.2⟩
section
variable{P:Χ}{w:ϒ}{H:Hp}{h:Heap}{a:Addr}
def zpL(ok:HOk P w H h)(e:Rd H a u):ObjOk P w H h a u:=e.ok ok
def zsk(ok:HOk P w H h)(e:Rd H a (.dK kvs)):kvs.length<=sizeLine/\(a==sysModules)=Θ/\∃vs,KV kvs vs/\h.DictOf (zaf P w) a vs:=show ObjOk P w H h a (.dK kvs) from zpL ok e
def zsl(ok:HOk P w H h)(e:H a=Φ (.dK kvs)):kvs.length<=sizeLine/\(a==sysModules)=Θ/\∃vs,KV kvs vs/\h.DictOf (zaf P w) a vs:=zsk ok (.inl e)
def zhw(ok:HOk P w H h)(e:H a=Φ (.tup (ks.map kV))):(tupleKind (zaf P w)).is h ks a:=by let⟨_,its,r,o,h1,h2,n,h3⟩:=(show ObjOk P w H h a (.tup (ks.map kV)) from ok a _ e);exact⟨o,its.toArray,n,h1,h2,h3,by simpa using zfT r⟩
def zsi(ok:HOk P w H h)(e:Rd H a (.dT kvs)):kvs.length<=sizeLine/\(a==sysModules)=Θ/\
  ∃xs,KT H kvs xs/\h.DictOfH (tupleKind (zaf P w)) a xs:=by
 let⟨z,y,xs,r,o,es,ep,h1,h2,h3,h4,h5⟩:=(show ObjOk P w H h a (.dT kvs) from zpL ok e);refine⟨z,y,xs,r,o,es,ep,h1,h2,h3,h4,λx hx=>?_,h5⟩;have all:∀{l:List (List Key×V)}{m:List (List Key×Addr×Ω)},KT H l m->∀x∈m,(tupleKind (zaf P w)).is h x.1 x.2.1:=by
  intro l m q;induction q with
  |nil=>intro x hx;exact by cases hx
  | @cons p q ps qs hq t ih=>intro x hx;rcases mem_cons.mp hx with e|hx;subst e;exact zhw ok (by rw[<-hq.1];exact hq.2.1);exact ih x hx
 exact all r x hx
def zsj(ok:HOk P w H h)(e:H a=Φ (.dT kvs)):kvs.length<=sizeLine/\(a==sysModules)=Θ/\
 ∃xs,KT H kvs xs/\h.DictOfH (tupleKind (zaf P w)) a xs:=zsi ok (.inl e)
end
abbrev DGet(H:Hp)(a:Addr)(y:V)(r:Option V):Prop:=(∃kvs k,Rd H a (.dK kvs)/\y=kV k/\r=valV kvs k)\/∃kvs k b,Rd H a (.dT kvs)/\y=.ref b/\H b=Φ (.tup (k.map kV))/\r=valV kvs k
abbrev DPut(H:Hp)(a:Addr)(y v:V)(H':Hp):Prop:=
 (∃kvs k,H a=Φ (.dK kvs)/\y=kV k/\kvs.length<sizeLine/\H'=upd H a (.dK (putK kvs k v)))\/
 ∃kvs k b,H a=Φ (.dT kvs)/\y=.ref b/\H b=Φ (.tup (k.map kV))/\kvs.length<sizeLine/\H'=upd H a (.dT (putK kvs k v))
def DGet.k{k}(e:H a=Φ (.dK kvs)):DGet H a (kV k) (valV kvs k):=.inl ⟨kvs,k,.inl e,rfl,rfl⟩
def DPut.k{k}(e:H a=Φ (.dK kvs))(b:kvs.length<sizeLine):DPut H a (kV k) v (upd H a (.dK (putK kvs k v))):=.inl ⟨kvs,k,e,rfl,b,rfl⟩
section
variable{X:Cx}{pins:List (Addr×Obj)}{σ:St}{H:Hp}{s:Ι}{a:Addr}{y v:V}{u r:Ω}{o:Option V}{A:ϔ}{E:Ω->Ι->Prop}
def Inv.big(I:Inv X pins σ H s):sysModules<s.heap.objs.size:=by have h:mainGlobals<s.heap.objs.size:=(I.mod.glob.keeps I.bk).lt;exact lt_trans (by decide) h
def zgU(I:Inv X pins σ H s)(mu:Mut (H a))(hs:Heap.SameBut a s.heap h')(he:∃q,h'.get? a=Φ q)(new:ObjOk X.prog X.w (upd H a ob) h' a ob):
  Inv X pins σ (upd H a ob) {s with heap:=h',toks:=t'}:=
 I.write (x:=a) (e:=a) mu (.inl rfl) (λb q hb z=>(hs.2 b hb).trans z) he new
def zq5(z:kvs.length<=sizeLine)(hd:(a==sysModules)=Θ)(rel:KV kvs vs)(dd:h'.DictOf (zaf P w) a vs):
 ObjOk P w H' h' a (.dK kvs):=⟨z,hd,vs,rel,dd⟩
def zkB(hu:A.units+1<cLine)(I:Inv X pins σ H s)(g:DPut H a y v H')(ry:RelV y u)(rv:RelV v r)(h:∀s',Inv X pins σ H' s'->Q () s'):
  wpAny (model X.prog X.w) A (setItem (.ref a) u r) Q E s:=by
 rcases g with⟨kvs,k,e,ey,l,eH⟩|⟨kvs,k,b,e,ey,eb,l,eH⟩
 . subst ey eH;let⟨z,hd,vs,rel,dd⟩:=zsl I.hok e;have hz:vs.length<=sizeLine:=by rw[<-rel.length];exact z
   have hl:(putK kvs k v).length<=sizeLine:=by have:=zdG kvs k v;lia
   refine wpAny_setItem_pairs (hsz:=hz) (zqP ry) dd λh' dd' hs=>h _ ?_;have he:∃q,h'.get? a=Φ q:=let ⟨q,_,_,hq,_⟩:=dd';⟨q,hq⟩;exact zgU I (by rw[e];exact True.intro) hs he (zq5 hl hd (rel.put k rv) dd')
 subst ey eH;cases(show u=Ω.ref b from ry);let⟨z,hd,xs,rel,dd⟩:=zsj I.hok e;have hz:xs.length<=sizeLine:=by rw[<-Paired.length rel];exact z
 have hl:(putK kvs k v).length<=sizeLine:=by have:=zdG kvs k v;lia
 refine wpAny_setItem_heap (hsz:=hz) (tupleKind_room_in1 hu) (zhw I.hok eb) dd λh' dd' hs=>h _ ?_;let⟨q,es,ep,hq,h2,h3,h4,_,h5⟩:=dd';refine zgU I (by rw[e];exact True.intro) hs ⟨q,hq⟩ ⟨hl,hd,_,(rel.put k eb rv).keeps λc ys ec=>?_,q,es,ep,hq,h2,h3,h4,h5⟩;rw[zai (ne_of ec e (λz=>by cases z))];exact ec
end
structure M1(X:Cx)(o:Expr)(m:Str)(apos:Pos)(e:Expr)(cpos:Pos):Prop where
 base:attributeBase o m X.env (eval o X.env)=eval o X.env
 few:((backTo cpos (starEach [e] X.env)).all (λx=>!x.1)&&(backToKw cpos (keywordEach [] X.env)).all (λx=>x.1.isSome)
  && decide (([e]:List Expr).length+([]:List Keyword).length+(if([]:List Keyword).isEmpty then 0 else 1)<30))=Δ
 line:(apos.endLine==cpos.line)=Δ
 trees:backTo cpos (starEach [e] X.env)=[(Θ,eval e X.env)]
structure M2(X:Cx)(o:Expr)(m:Str)(apos:Pos)(e f:Expr)(cpos:Pos):Prop where
 base:attributeBase o m X.env (eval o X.env)=eval o X.env
 few:((backTo cpos (starEach [e,f] X.env)).all (λx=>!x.1)&&(backToKw cpos (keywordEach [] X.env)).all (λx=>x.1.isSome)
  && decide (([e,f]:List Expr).length+([]:List Keyword).length+(if([]:List Keyword).isEmpty then 0 else 1)<30))=Δ
 line:(apos.endLine==cpos.line)=Δ
 trees:backTo cpos (starEach [e,f] X.env)=[(Θ,eval e X.env),(Θ,eval f X.env)]
end L2
namespace HT
open PySem PyProof.Rows
abbrev lexLt:List Int->List Int->Bool
 | [],[]=>Θ| [],_::_=>Δ|_::_,[]=>Θ|x::xs,y::ys=>if x=y then lexLt xs ys else decide (x<y)
def ziq(x y)(xs ys):lexLt (x::xs) (y::ys)=if x=y then lexLt xs ys else decide (x<y):=rfl
def ze6:lexLt [] []=Θ:=rfl
def zd8(y)(ys):lexLt [] (y::ys)=Δ:=rfl
def zd9(x)(xs):lexLt (x::xs) []=Θ:=rfl
def zlS(A)(s)(a)(t)(c)(u):∃e,SeqAt.EqAt A s (.int a t) (.int c u) e/\(e=Δ↔a=c):=⟨(a==c),SeqAt.EqAt.int_int a t c u,by simp⟩
def zlf(A)(s)(a)(t)(c)(u)(prog)(w)(E)(Q)(h:Q (.bool (decide (a<c))) s):
  wpAny (model prog w) A (richCompare .Lt (.int a t) (.int c u)) Q E s:=
 (PyProof.Rows.lt_int h:wpAny (model prog w) A (compareOp .Lt (.int a t) (.int c u)) Q E s)
section
open PySem.SeqAt
open PySem.AutoSeq1 (wpAny_loadPart')
open PySem.MeetsSeq PySem.MeetsSeq2 PySem.MeetsSeq3
def zeI(l b)(items items2)(n n2)(dd dd2)(sl sl2)(ns ms)(hi:IntsAre items.toList ns)(hj:IntsAre items2.toList ms):
  Meets (Builtin.«tuple.__lt__» ⟨[.ref l,.ref b],[]⟩)
   (λ_ R s=>s.heap.get? l=Φ {cls:=.type "tuple",dict:=dd,data:=.seq items n,slots:=sl}/\s.heap.get? b=Φ {cls:=.type "tuple",dict:=dd2,data:=.seq items2 n2,slots:=sl2}/\
    R (.ok (.ret (.bool (lexLt ns ms)))) s):=
 .of_wp λprog w A R s h=>by
  let⟨hp,g,d,tk,os⟩:=s;let⟨hl,hb,h⟩:=h;have f2:=AutoSeq1.sub_tuple_tuple;have z1:items.size=ns.length:=by rw[<-hi.length];simp
  have z2:items2.size=ms.length:=by rw[<-hj.length];simp
  wp_walk using wpAny_loadPart' hl,wpAny_loadPart' hb,ϛ _ (λrest b s'=>b.1=Ψ/\s'=⟨hp,g,d,tk,os⟩/\∃(vs ws:List Ω) (ns' ms':List Int),rest=vs.zip ws/\
   IntsAre vs ns'/\IntsAre ws ms'/\ns'.length+items2.size=ms'.length+items.size/\R (.ok (.ret (.bool (lexLt ns' ms')))) ⟨hp,g,d,tk,os⟩) _
  case turn=>
   rintro⟨y,x⟩ rest b s' ⟨hb',rfl,vs,ws,ns',ms',hz,hvi,hwi,hlen,hR⟩;cases hvi with
   |nil=>rw[List.zip_nil_left]at hz;cases hz
   |cons a t hvi'=>
    cases hwi with
    |nil=>rw[List.zip_nil_right]at hz;cases hz
    |cons c u hwi'=>
     rw[List.zip_cons_cons]at hz;injection hz with hyx hrest;injection hyx with hy hx;subst hy hx;rw[ziq]at hR;simp![length_cons]at hlen;let⟨e,he,hiff⟩:=zlS A.in1 ⟨hp,g,d,tk,os⟩ a t c u;refine Ξ (he prog w _ _ ?_);cases e with
     |true=>
      rw[if_pos (hiff.mp rfl)]at hR
      wp_walk
      exact⟨rfl,rfl,_,_,_,_,hrest,hvi',hwi',by lia,hR⟩
     |false=>
      rw[if_neg (λq=>absurd (hiff.mpr q) Ε)]at hR;have hri:=zlf A.in1 ⟨hp,g,d,tk,os⟩ a t c u prog w
      wp_walk using hri
      exact⟨_,rfl,by simpa using hR⟩
  case fin=>
   rintro⟨b1,b2⟩ s' ⟨hb',rfl,vs,ws,ns',ms',hz,hvi,hwi,hlen,hR⟩;simp only at hb';subst hb';have hv:lexLt ns' ms'=decide (items.size<items2.size):=by
    cases hvi with
    |nil=>cases hwi with| nil=>simp![length_nil]at hlen;rw[ze6];exact(decide_eq_false (by lia)).symm| cons c u hw=>simp![length_nil,length_cons]at hlen;rw[zd8];exact(decide_eq_true (by lia)).symm
    |cons a t hv=>cases hwi with| nil=>simp![length_nil,length_cons]at hlen;rw[zd9];exact(decide_eq_false (by lia)).symm| cons c u hw=>rw[List.zip_cons_cons]at hz;cases hz
   rw[hv]at hR
   wp_walk
   exact⟨_,rfl,by simpa[Builtin.Tuple.tupleCompareSizes]using hR⟩
  case h=>exact⟨rfl,rfl,items.toList,items2.toList,ns,ms,rfl,hi,hj,by lia,h⟩
end
section
variable{prog:Χ}{w:ϒ}{A:ϔ}{E:Ω->Ι->Prop}{s:Ι}
def lt_tupInts(hl:IsTup s.heap l items)(hb:IsTup s.heap b items2)(hi:IntsAre items.toList ns)(hj:IntsAre items2.toList ms)(hu:A.units<cLine)(h:Q (.bool (lexLt ns ms)) s):wpAny (model prog w) A (compareOp .Lt (.ref l) (.ref b)) Q E s:=by
 let⟨⟨cls,dd,data,sl⟩,ho,hc,n,hd⟩:=id hl;let⟨⟨cls2,dd2,data2,sl2⟩,ho2,hc2,n2,hd2⟩:=id hb;simp only at hc hd hc2 hd2;subst hc hd hc2 hd2;exact richCompare_meets_room (op:=.Lt) ⟨_,ho,rfl⟩ ⟨_,ho2,rfl⟩ PySem.F.slot_tuple_lt PySem.F.entry_tuple_lt (PySem.F.args_tuple_lt_2 _ _) (zeI l b items items2 n n2 dd dd2 sl sl2 ns ms hi hj)
  ⟨ho,ho2,show Ω.bool (lexLt ns ms)≠Ω.notImplemented/\Q (.bool (lexLt ns ms)) s from⟨(λx=>by cases x),h⟩⟩ hu
def cat_tup(u:IsTup s.heap t vs.toArray)(v:IsTup s.heap b a.toArray)(k:vs≠[])(x:a=[]->Q (.ref t) s)(y:a≠[]->Q (.ref s.heap.objs.size) {s with heap:=s.heap.push {cls:=.type "tuple",data:=.seq (vs++a).toArray}})(hsz:vs.length+a.length<=sizeLine):wpAny (model prog w) A (binaryOp .Add (.ref t) (.ref b)) Q E s:=by
 let⟨⟨cls,l,data,m⟩,i,o,n,p⟩:=id u;let⟨⟨q,d,data2,f⟩,c,g,r,h⟩:=id v;simp only at o p g h;subst o p g h;have e:vs.toArray++a.toArray=(vs++a).toArray:=by simp
 by_cases j:a=[]
 exact concat_meets ⟨_,i,rfl⟩ ⟨_,c,rfl⟩ noFill_tuple_add seq_tuple_add PySem.F.slot_tuple_add PySem.F.entry_tuple_add (PySem.F.args_tuple_add_2 _ _)
  (tuple_addW1 t b vs.toArray a.toArray n r l d m f (by simpa using k) (by simp[j])) ⟨i,c,x j⟩
 refine concat_meets ⟨_,i,rfl⟩ ⟨_,c,rfl⟩ noFill_tuple_add seq_tuple_add PySem.F.slot_tuple_add PySem.F.entry_tuple_add (PySem.F.args_tuple_add_2 _ _)
  (tuple_addW2 t b vs.toArray a.toArray n r l d m f (by simpa using k) (by simpa using j) (by rw[size_toArray,size_toArray];exact hsz)) ⟨i,c,?_⟩
 rw[e];exact y j
abbrev sIx(n d:Nat):Option Int->Nat
 |none=>d|some v=>if v<0 then(v+(n:Int)).toNat else min v.toNat n
def zpH(n d)(hd:d<=n)(o):sIx n d o<=n:=by cases o with|none=>exact hd| some v=>show(if v<0 then(v+(n:Int)).toNat else min v.toNat n)<=n;by_cases hv:v<0;rw[if_pos hv];lia;rw[if_neg hv];exact Nat.min_le_right _ _
def zkD(v)(n d:Nat):(if v<0 then max (v+(n:Int)) 0 else min v (n:Int))=((sIx n d (Φ v):Nat):Int):=by show(if v<0 then max (v+(n:Int)) 0 else min v (n:Int))=(((if v<0 then(v+(n:Int)).toNat else min v.toNat n):Nat):Int);by_cases hv:v<0;simp![if_pos hv];lia;simp![if_neg hv];lia
def ziE(lo hi)(n:Nat):Builtin.Slice.sliceAdjust lo hi 1 (n:Int)=(((sIx n 0 lo:Nat):Int),((sIx n n hi:Nat):Int)):=by
 have h1:¬((1:Int)<0):=by lia
 unfold Builtin.Slice.sliceAdjust;simp![h1,if_false];refine Prod.ext ?_ ?_;cases lo with|none=>rfl|some v=>exact zkD v n 0
 cases hi with|none=>rfl|some v=>exact zkD v n n
def zib(i j:Nat):Builtin.Slice.slicePlaces (i:Int) (j:Int) 1=j-i:=by
 unfold Builtin.Slice.slicePlaces;have h1:(1:Int)>0:=by lia
 simp![h1,if_true,Int.ediv_one];split<;>lia
def slicePart_(p:IsPart v o)(h:Q o s):wpAny (model prog w) A (Builtin.Slice.slicePartIndex v) Q E s:=by cases p with|none=>exact slicePart_none h|int i t=>exact slicePart_int h
def sliceApplied_gen{lo hi}{Q:Int×Int×Nat->Ι->Prop}(hs:s.heap.IsSliceOf sl vl vu .none)(pl:IsPart vl lo)(pu:IsPart vu hi)(h:Q (((sIx n 0 lo:Nat):Int),1,sIx n n hi-sIx n 0 lo) s):wpAny (model prog w) A (Builtin.Slice.sliceApplied (.ref sl) (pure (n:Int))) Q E s:=by
 let⟨os,hos,hcs,hds⟩:=id hs;unfold Builtin.Slice.sliceApplied Builtin.Slice.sliceFields;refine Ξ (Ξ (wpAny_field hos hds (x:=vl) rfl (Ξ (wpAny_field hos hds (x:=vu) rfl (Ξ (wpAny_field hos hds (x:=.none) rfl (Λ ?_)))))));refine Ξ (slicePart_none ?_);show wpAny _ _ (if((1:Int)==0)=Δ then _ else _) _ _ s;rw[if_neg (by decide)];refine Ξ (slicePart_ pl (Ξ (slicePart_ pu (Ξ (Λ ?_)))));show wpAny _ _ (match Builtin.Slice.sliceAdjust lo hi 1 (n:Int) with|(lo,hi)=>pure (lo,(1:Int),Builtin.Slice.slicePlaces lo hi 1)) _ _ s;rw[ziE lo hi n];show wpAny _ _ (pure (((sIx n 0 lo:Nat):Int),(1:Int),Builtin.Slice.slicePlaces ((sIx n 0 lo:Nat):Int) ((sIx n n hi:Nat):Int) 1)) _ _ s;rw[zib];exact Λ h
def zlm(xs:Array Ω)(i k:Nat):((List.range k).filterMap λ(m:Nat)=>xs[((i:Int)+(m:Int)*1).toNat]?).toArray=((xs.toList.drop i).take k).toArray:=by
 have e:(λ(m:Nat)=>xs[((i:Int)+(m:Int)*1).toNat]?)=λm=>xs[i+m]?:=by
  funext m;have:((i:Int)+(m:Int)*1).toNat=i+m:=by lia
  rw[this]
 rw[e];have:=pick_run xs i k;rw[List.filterMap_map]at this;have e2:((λx=>xs[x]?)∘λx=>i+x)=λm=>xs[i+m]?:=rfl;rw[e2]at this;rw[this]
def getItem_tuple_cut{lo hi}(ht:IsTup s.heap t items)(hs:s.heap.IsSliceOf sl vl vu .none)(pl:IsPart vl lo)(pu:IsPart vu hi)(hw:¬(sIx items.size 0 lo=0/\sIx items.size items.size hi=items.size))(h:Q (.ref s.heap.objs.size) {s with heap:=s.heap.push {cls:=.type "tuple",data:=.seq ((items.toList.drop (sIx items.size 0 lo)).take (sIx items.size items.size hi-sIx items.size 0 lo)).toArray}})(hsz:items.size<=sizeLine):wpAny (model prog w) A (getItem (.ref t) (.ref sl)) Q E s:=by
 have htake:sizeOk (.seq ((items.toList.drop (sIx items.size 0 lo)).take (sIx items.size items.size hi-sIx items.size 0 lo)).toArray):=by show((items.toList.drop (sIx items.size 0 lo)).take (sIx items.size items.size hi-sIx items.size 0 lo)).toArray.size<=sizeLine;rw[size_toArray,length_take,List.length_drop,length_toList];omega
 have hj:sIx items.size items.size hi<=items.size:=zpH _ _ (le_refl _) hi;let⟨os,hos,hcs,hds⟩:=id hs;have hTs:s.TypeIs (.ref sl) "slice":=⟨os,hos,hcs⟩;unfold getItem
 try with_reducible refine ϙ ?_
 first|refine Ξ (Λ ?_)|skip
 refine Ξ (wpAny_sequenceKey ht.typeIs (by decide) ?_);refine Ξ (Ϝ (name:=Str.ofString "__getitem__") ht.typeIs PyProof.Rows.slot_tuple_getitem
  (ύ PyProof.Rows.slot_tuple_getitem ht.typeIs entry_tuple_getitem ?_ (args_tuple_getitem _ _)))
 show wpAny _ _ (Builtin.Tuple.tupleItemsOf (.ref t)>>=_) _ _ s;refine Ξ (tupleItemsOf_ ht ?_);refine Ξ (wpAny_typeOf hTs ?_);rw[if_pos (by decide)];refine Ξ (sliceApplied_gen hs pl pu ?_);have hno:¬((((sIx items.size 0 lo:Nat):Int)==0&&(1:Int)==1&&(sIx items.size items.size hi-sIx items.size 0 lo)==items.size)=Δ):=by intro q;rw[Β,Β]at q;have q1:((sIx items.size 0 lo:Nat):Int)=0:=eq_of_beq q.1.1;have q2:sIx items.size items.size hi-sIx items.size 0 lo=items.size:=eq_of_beq q.2;exact hw ⟨by omega,by omega⟩
 show wpAny _ _ (if(((sIx items.size 0 lo:Nat):Int)==0&&(1:Int)==1&&(sIx items.size items.size hi-sIx items.size 0 lo)==items.size)=Δ then _ else _) _ _ s;rw[if_neg hno,zlm]
 first
  |exact Ξ (m:=Builtin.Tuple.tupleExact _) (ό (Λ ⟨_,rfl,Λ h⟩) htake)
  |exact Ξ (m:=Builtin.Tuple.tupleExact _) (ό (Ξ (Λ (Λ ⟨_,rfl,Λ h⟩))) htake)
  |exact Ξ (Ξ (m:=Builtin.Tuple.tupleExact _) (ό (Λ (Λ ⟨_,rfl,Λ h⟩)) htake))
  |exact Ξ (Ξ (m:=Builtin.Tuple.tupleExact _) (ό (Λ ⟨_,rfl,Λ h⟩) htake))
end
end HT
namespace L2
open PySem PySem.Spec PyProof.Rows
@[reducible]def TO:=St->Hp->(Option Int->Hp->Prop)->Prop
abbrev PO(X:Cx)(e:Option Expr)(t:TO):Prop:=
 ∀(pins:List (Addr×Obj))(s:Ι)(σ:St)(H:Hp)(Q:Option Int->Hp->Prop),Inv X pins σ H s->t σ H Q->
  wpAny (model X.prog X.w) X.A (evalPart e X.env) (λu s'=>∃o H',Inv X pins σ H' s'/\IsPart u o/\Q o H') X.xe s
abbrev zmY:TO:=λ_ H Q=>Q Ψ H
abbrev zo9(t:TE):TO:=λσ H Q=>t σ H λx H1=>∃i,x=.int i/\Q (Φ i) H1
def zbm:∀{us:List Ω},Vals (ns.map V.int) us->IntsAre us ns:=by induction ns with|nil=>intro us r;rw[map_nil]at r;cases r;exact .nil| cons n ns ih=>intro us r;rw[ϊ]at r;cases r with| cons r1 r2=>let⟨t,e⟩:=r1;subst e;exact .cons n t (ih r2)
section
variable{X:Cx}{e:Expr}{te:TE}{lo hi:Option Expr}{tl th:TO}{pos p2:Pos}
def zgJ:PO X Ψ zmY:=by intro pins s σ H Q I h;rw[evalPart_none];exact Λ ⟨Ψ,H,I,.none,h⟩
def zjp(h:PE X e te):PO X (Φ e) (zo9 te):=by intro pins s σ H Q I hw;rw[evalPart_some];refine thn (h pins s σ H _ I hw) λu s1 z=>?_;let⟨x,H1,I1,r1,q1⟩:=z;let⟨i,rfl,q⟩:=q1;let⟨t,rfl⟩:=r1;exact⟨Φ i,H1,I1,.int i t,q⟩
abbrev SlR(X:Cx)(r:V->Option Int->Option Int->Hp->VK->Prop):Prop:=
 ∀(pins:List (Addr×Obj))(s:Ι)(σ:St)(H:Hp)(x:V)(v vl vu:Ω)(lo hi:Option Int)(sl:Addr)(Q:VK),Inv X pins σ H s->RelV x v->s.heap.IsSliceOf sl vl vu .none->IsPart vl lo->IsPart vu hi->r x lo hi H Q->
  ∃T id,typeLookup (.type T) "__getitem__"=pure (Φ (.builtin id))/\s.TypeIs v T/\wpAny (model X.prog X.w) X.A (getItem v (.ref sl)) (EP X pins σ Q) X.xe s
def SlR.or(h:SlR X r)(h':SlR X r'):SlR X (λx lo hi H Q=>r x lo hi H Q\/r' x lo hi H Q):=by intro pins s σ H x v vl vu lo hi sl Q I rx hs pl pu q;rcases q with q|q;exact h pins s σ H x v vl vu lo hi sl Q I rx hs pl pu q;exact h' pins s σ H x v vl vu lo hi sl Q I rx hs pl pu q
abbrev tSl(r:V->Option Int->Option Int->Hp->VK->Prop)(te:TE)(tl th:TO):TE:=λσ H Q=>te σ H λx H1=>tl σ H1 λl H2=>th σ H2 λu H3=>r x l u H3 Q
def zlq(hr:SlR X r)(he:PE X e te)(hl:PO X lo tl)(hu:PO X hi th):PE X (.Subscript e (.Slice lo hi Ψ p2) pos) (tSl r te tl th):=by intro pins s σ H Q I h;refine Subscript_ (thn (he pins s σ H _ I h) λv s1 z=>?_);let⟨x,H1,I1,r1,q1⟩:=z;refine wpAny_Slice (thn (hl pins s1 σ H1 _ I1 q1) λvl s2 z=>eY z λl H2 I2 pl q2=>thn (hu pins s2 σ H2 _ I2 q2) λvu s3 z=>?_);let⟨u,H3,I3,pu,q3⟩:=z;rw[evalPart_none];refine Λ ?_;have I4:Inv X pins σ H3 {s3 with heap:=s3.heap.push {cls:=.type "slice",data:=.fields #[vl,vu,.none]}}:=I3.kept (t':=s3.toks) λb ob q=>Α _ q;let⟨T,id,hT,ht,hg⟩:=hr pins {s3 with heap:=s3.heap.push {cls:=.type "slice",data:=.fields #[vl,vu,.none]}} σ H3 x v vl vu l u s3.heap.objs.size Q I4 r1 (Heap.IsSliceOf.new ..) pl pu q3;show wpAny (model X.prog X.w) X.A (subscriptTail e (.Slice lo hi Ψ p2) v (.ref s3.heap.objs.size)) (EP X pins σ Q) X.xe {s3 with heap:=s3.heap.push {cls:=.type "slice",data:=.fields #[vl,vu,.none]}};exact tail_any (ops:=[.ref s3.heap.objs.size,v]) ht hT hg (by with_unfolding_all rfl)
abbrev cutV(xs:List V)(lo hi:Option Int):List V:=(xs.drop (HT.sIx xs.length 0 lo)).take (HT.sIx xs.length xs.length hi-HT.sIx xs.length 0 lo)
def zdU(xs)(lo hi):(cutV xs lo hi).length<=xs.length:=by unfold cutV;rw[length_take,List.length_drop];lia
abbrev rSlT(K:Frag):V->Option Int->Option Int->Hp->VK->Prop:=λx lo hi H Q=>∃a xs,x=.ref a/\SqT K H a xs/\
 ¬(HT.sIx xs.length 0 lo=0/\HT.sIx xs.length xs.length hi=xs.length)/\∀p,H p=Ψ->Q (.ref p) (upd H p (.tup (cutV xs lo hi)))
def zpj:SlR X (rSlT X.K):=by
 intro pins s σ H x v vl vu lo hi sl Q I rx hs pl pu h;let⟨a,xs,rfl,hx,hw,q⟩:=h;cases rx;let⟨its,r,ht,hz⟩:=I.tuple hx;have hlen:its.toArray.size=xs.length:=by rw[size_toArray];exact r.length.symm
 refine⟨"tuple",_,PyProof.Rows.slot_tuple_getitem.lookup,ht.typeIs,?_⟩;refine HT.getItem_tuple_cut ht hs pl pu (by rw[hlen];exact hw) ?_ (by rw[hlen];exact hz);rw[hlen];refine⟨.ref s.heap.objs.size,_,I.laid (t':=s.toks) (o:=.tup (cutV xs lo hi)) (λb ob q=>Α _ q) (le_refl _) ?_,rfl,q _ (I.hok.fresh (le_refl _))⟩;exact⟨le_trans (zdU xs lo hi) hz,_,(r.drop (HT.sIx xs.length 0 lo)).take (HT.sIx xs.length xs.length hi-HT.sIx xs.length 0 lo),IsTup.new _ _⟩
abbrev rLtT(K:Frag):R2:=λx y H Q=>∃a b ns ms,x=.ref a/\y=.ref b/\SqT K H a (ns.map V.int)/\SqT K H b (ms.map V.int)/\Q (.bl (HT.lexLt ns ms)) H
def zqj(hu:X.A.units<cLine):OpR X (compareOp .Lt) (rLtT X.K):=by intro pins s σ H x y v u Q I rx ry h;let⟨a,b,ns,ms,rfl,rfl,ha,hb,q⟩:=h;cases rx;cases ry;let⟨its,r1,p1,_⟩:=I.tuple ha;let⟨its2,r2,p2,_⟩:=I.tuple hb;have i1:IntsAre its.toArray.toList ns:=zbm r1;have i2:IntsAre its2.toArray.toList ms:=zbm r2;exact HT.lt_tupInts p1 p2 i1 i2 hu ⟨.bl (HT.lexLt ns ms),H,I,rfl,q⟩
abbrev zrH(K:Frag):R2:=λx y H Q=>∃a b xs ys,x=.ref a/\y=.ref b/\SqT K H a xs/\SqT K H b ys/\xs≠[]/\xs.length+ys.length<=sizeLine/\
 (ys=[]->Q (.ref a) H)/\(ys≠[]->∀p,H p=Ψ->Q (.ref p) (upd H p (.tup (xs++ys))))
def Vals.nil_iff(r:Vals xs us):us=[]↔xs=[]:=by cases r with|nil=>simp|cons _ _=>simp
def znT:OpR X (binaryOp .Add) (zrH X.K):=by intro pins s σ H x y v u Q I rx ry h;let⟨a,b,xs,ys,rfl,rfl,ha,hb,hx,hz,q1,q2⟩:=h;cases rx;cases ry;let⟨its,r1,p1,_⟩:=I.tuple ha;let⟨its2,r2,p2,_⟩:=I.tuple hb;refine HT.cat_tup p1 p2 (λz=>hx (r1.nil_iff.mp z)) (λz=>⟨.ref a,H,I,rfl,q1 (r2.nil_iff.mp z)⟩) (λz=>?_) (by rw[<-r1.length,<-r2.length];exact hz);refine⟨.ref s.heap.objs.size,_,I.laid (t':=s.toks) (o:=.tup (xs++ys)) (λb ob q=>Α _ q) (le_refl _) ?_,rfl,q2 (λw=>z (r2.nil_iff.mpr w)) _ (I.hok.fresh (le_refl _))⟩;exact⟨by rw[length_append];exact hz,_,r1.append r2,IsTup.new _ _⟩
end
abbrev ixN(n:Nat)(i:Int):Option Nat:=if 0<=i then(if i<n then Φ i.toNat else Ψ) else if -(n:Int)<=i then Φ (i+n).toNat else Ψ
abbrev atI{α:Type}(xs:List α)(i:Int):Option α:=(ixN xs.length i).bind λj=>xs[j]?
def zj6(h:ixN n i=Φ j):seqIndex? i n=Φ j/\j<n/\-(n:Int)<=i/\i<n:=by unfold ixN at h;by_cases h0:0<=i;rw[if_pos h0]at h;by_cases h1:i<n;rw[if_pos h1]at h;have e:i.toNat=j:=Option.some.inj h;exact⟨by rw[seqIndex_of h0 h1,e],by lia,by lia,h1⟩;rw[if_neg h1]at h;exact nS h;rw[if_neg h0]at h;by_cases h1:-(n:Int)<=i;rw[if_pos h1]at h;have e:(i+n).toNat=j:=Option.some.inj h;exact⟨by rw[seqIndex_neg (by lia) h1,e],by lia,h1,by lia⟩;rw[if_neg h1]at h;exact nS h
def zg1(h:atI xs i=Φ v):∃j,seqIndex? i xs.length=Φ j/\xs[j]?=Φ v/\j<xs.length/\-(xs.length:Int)<=i/\i<xs.length:=by
 unfold atI at h;cases e:ixN xs.length i with
 |none=>rw[e]at h;exact nS h
 |some j=>rw[e]at h;let⟨h1,h2,h3,h4⟩:=zj6 e;exact⟨j,h1,h,h2,h3,h4⟩
abbrev zkP(b:Expr):Prop:=∀o i,subscripted b Θ o i=operate [o,i] (getItem o i)
abbrev IxR(X:Cx)(r:R2):Prop:=
 ∀(value slice:Expr)(pins:List (Addr×Obj))(s:Ι)(σ:St)(H:Hp)(x y:V)(v u:Ω)(Q:VK),Inv X pins σ H s->RelV x v->RelV y u->r x y H Q->
  subscripted slice Θ v u=operate [v,u] (getItem v u)->wpAny (model X.prog X.w) X.A (subscriptTail value slice v u) (EP X pins σ Q) X.xe s
abbrev MtR(X:Cx)(id:String)(r:V->List V->Hp->VK->Prop):Prop:=
 ∀(pins:List (Addr×Obj))(s:Ι)(σ:St)(H:Hp)(x:V)(xs:List V)(v:Ω)(us:List Ω)(Q:VK),Inv X pins σ H s->RelV x v->Vals xs us->r x xs H Q->
  wpAny (model X.prog X.w) X.A (call (.builtin id) (v::us)) (EP X pins σ Q) X.xe s
section
variable{X:Cx}{a b:Expr}{ta tb:TE}{pos:Pos}
def IxR.or(h:IxR X r)(h':IxR X k):IxR X (λx y H Q=>r x y H Q\/k x y H Q):=by intro c d e s f H x y v u Q I g i q j;rcases q with q|q;exact h c d e s f H x y v u Q I g i q j;exact h' c d e s f H x y v u Q I g i q j
def zrN(hr:IxR X r)(ha:PE X a ta)(hb:PE X b tb)(hs:zkP b):PE X (.Subscript a b pos) (tOp r ta tb):=by intro pins s σ H Q I h;exact Subscript_ (binT ha hb I h λv u s2 x y H2 I2 rx ry q=>hr a b pins s2 σ H2 x y v u Q I2 rx ry q (hs _ _))
abbrev rIxL(K:Frag):R2:=λx y H Q=>∃p xs i v,x=.ref p/\y=.int i/\SqL K H p xs/\atI xs i=Φ v/\Q v H
abbrev rIxT(K:Frag):R2:=λx y H Q=>∃p xs i v,x=.ref p/\y=.int i/\SqT K H p xs/\atI xs i=Φ v/\Q v H
abbrev rIxS:R2:=λx y H Q=>∃z i c,x=.str z/\y=.int i/\z.length<=sizeLine/\atI z.cps.toList i=Φ c/\Q (.str ⟨#[c]⟩) H
def ix_list:IxR X (rIxL X.K):=by
 intro value slice pins s σ H x y v u Q I rx ry h hs;let⟨p,xs,i,z,rfl,rfl,hq,he,q⟩:=h;cases rx;let⟨t,rfl⟩:=ry;let⟨its,r,pl,hz⟩:=I.list hq;let⟨j,h1,h2,h3,h4,h5⟩:=zg1 he;let⟨w,ew,rw'⟩:=r.get h2;have hl:=r.length;have hn:=zej;have fin:EP X pins σ Q w s:=⟨z,H,I,rw',q⟩;by_cases h0:0<=i;have hj:i.toNat=j:=by rw[seqIndex_of h0 h5]at h1;exact Option.some.inj h1
 exact item_listR pl.isList h0 (by lia) (by rw[hj];simpa using ew) fin hs;have hj:(i+(its.toArray.size:Int)).toNat=j:=by rw[seqIndex_neg (by lia) h4]at h1;rw[size_toArray,<-hl];exact Option.some.inj h1
 exact subscriptTail_builtinR (x:=w) pl.isList.typeIs slot_list_getitem.lookup
  (wpAny_getItem_list_neg (Q:=λr s'=>r=w/\EP X pins σ Q r s') pl.isList (by lia) (by rw[size_toArray]<;>lia) (by lia) (by rw[hj];simpa using ew) ⟨rfl,fin⟩) hs
def ix_tup:IxR X (rIxT X.K):=by
 intro value slice pins s σ H x y v u Q I rx ry h hs;let⟨p,xs,i,z,rfl,rfl,hq,he,q⟩:=h;cases rx;let⟨t,rfl⟩:=ry;let⟨its,r,pl,hz⟩:=I.tuple hq;let⟨j,h1,h2,h3,h4,h5⟩:=zg1 he;let⟨w,ew,rw'⟩:=r.get h2;have hl:=r.length;have hn:=zej;have fin:EP X pins σ Q w s:=⟨z,H,I,rw',q⟩;exact subscriptTail_builtinR (x:=w) pl.typeIs slot_tuple_getitem.lookup
  (getItem_tuple (j:=j) (Q:=λr s'=>r=w/\EP X pins σ Q r s') pl (by lia) (by lia) (by rw[size_toArray,<-hl];exact h1) (by simpa using ew) ⟨rfl,fin⟩) hs
def zqQ:IxR X rIxS:=by
 intro value slice pins s σ H x y v u Q I rx ry h hs;let⟨z,i,c,rfl,rfl,hz,he,q⟩:=h;let⟨t,rfl⟩:=rx;let⟨t',rfl⟩:=ry;let⟨j,h1,h2,h3,h4,h5⟩:=zg1 he;have hl:z.cps.toList.length=z.length:=by simp[Str.length]
 rw[hl]at h1 h4 h5;have hn:=zej;exact tail_any (typeIs_str s z t) slot_str_getitem.lookup (getItem_str (c:=c) (by
  have e1:decide (i < -(2^63:Int))=Θ:=decide_eq_false (by lia);have e2:decide (i≥2^63)=Θ:=decide_eq_false (by lia);rw[e1,e2,Bool.or_false]) (by rw[h1];simpa using h2) ⟨.str ⟨#[c]⟩,H,I.tok _,⟨_,rfl⟩,q⟩) hs
abbrev rIx(K:Frag):R2:=λx y H Q=>rIxL K x y H Q\/rIxT K x y H Q\/rIxS x y H Q
def zqR:IxR X (rIx X.K):=ix_list.or (ix_tup.or zqQ)
def zik(its:List Ω)(n j)(u):Obj.mapSeq (·.setIfInBounds j u) {cls:=.type "list",data:=.seq its.toArray n}={cls:=.type "list",data:=.seq (its.set j u).toArray n}:=by simp[Obj.mapSeq]
def Inv.lst{c:List (Addr×Obj)}{d:St}{H:Hp}{s:Ι}{p:Addr}{xs:List V}(I:Inv X c d H s)(h:H p=Φ (.lst xs)) :
  ∃(its:List Ω) (n:Nat),Vals xs its/\s.heap.get? p=Φ {cls:=.type "list",data:=.seq its.toArray n}/\xs.length<=sizeLine:=by
 let⟨z,its,n,r,e⟩:=I.hok p _ h;exact⟨its,n,r,e,z⟩
def Inv.lstUpd{its its':List Ω}(I:Inv X pins σ H s)(h:H p=Φ (.lst xs))(ho:s.heap.get? p=Φ {cls:=.type "list",data:=.seq its.toArray n})(hf:f {cls:=.type "list",data:=.seq its.toArray n}={cls:=.type "list",data:=.seq its'.toArray n'})(r:Vals ys its')(hz:ys.length<=sizeLine)(t):
  Inv X pins σ (upd H p (.lst ys)) {s with heap:=s.heap.update p f,toks:=t}:=by
 have e:(s.heap.update p f).get? p=Φ {cls:=.type "list",data:=.seq its'.toArray n'}:=by rw[Heap.get?_update_self f ho (by rw[hf]<;>rfl),hf]
 refine I.write (x:=p) (e:=p) (by rw[h];trivial) (.inl rfl) (λb u hb q=>(Heap.get?_update_other _ _ (Ne.symm hb)).trans q) ⟨_,e⟩ ?_;exact⟨hz,its',n',r,e⟩
abbrev zrG:V->V->V->Hp->(Hp->Prop)->Prop:=λo i v H Q=>∃p xs k j,o=.ref p/\i=.int k/\H p=Φ (.lst xs)/\ixN xs.length k=Φ j/\Q (upd H p (.lst (xs.set j v)))
def zkX:PSet X zrG:=by
 intro pins s σ H o i v ov iv u Q I ro ri rv h;let⟨p,xs,k,j,rfl,rfl,hp,hj,q⟩:=h;cases ro;let⟨t,rfl⟩:=ri;let⟨its,n,r,ho,hz⟩:=I.lst hp;let⟨h1,h2,h3,h4⟩:=zj6 hj;have hl:=r.length;have hn:=zej;have I':Inv X pins σ (upd H p (.lst (xs.set j v))) {s with heap:=s.heap.update p (Obj.mapSeq (·.setIfInBounds j u))}:=I.lstUpd hp ho (zik its n j u) (r.set rv j) (by rw[List.length_set];exact hz) s.toks;by_cases h0:0<=k;have hk:k.toNat=j:=by rw[seqIndex_of h0 h4]at h1;exact Option.some.inj h1
 exact PySem.W.ki_setAt ho h0 (by lia) (by rw[size_toArray,<-hl];exact h4) (by rw[hk];exact⟨_,I',q⟩);have hk:(k+(its.toArray.size:Int)).toNat=j:=by rw[seqIndex_neg (by lia) h3]at h1;rw[size_toArray,<-hl];exact Option.some.inj h1
 exact PySem.W.ki_setBack ho (by lia) (by rw[size_toArray,<-hl];exact h3) (by lia) (by rw[hk];exact⟨_,I',q⟩)
def zfu(lo hi)(n):(sliceBounds lo hi Ψ n).1=((HT.sIx n 0 lo:Nat):Int)/\(sliceBounds lo hi Ψ n).2.1=((HT.sIx n n hi:Nat):Int)/\(sliceBounds lo hi Ψ n).2.2=1:=by
 refine⟨?_,?_,rfl⟩;cases lo with
 |none=>simp[sliceBounds,HT.sIx]| some i=>
  simp![sliceBounds,HT.sIx,Option.getD_none,show(1:Int)>0 by decide,if_true];by_cases h:i<0
  . simp![h,if_true]<;>lia
  . simp![h,if_false]<;>lia
 cases hi with
 |none=>simp[sliceBounds,HT.sIx]| some i=>
  simp![sliceBounds,HT.sIx,Option.getD_none,show(1:Int)>0 by decide,if_true];by_cases h:i<0
  . simp![h,if_true]<;>lia
  . simp![h,if_false]<;>lia
def zeK(its:List Ω)(lo hi):slicePick its.toArray lo hi Ψ=((its.drop (HT.sIx its.length 0 lo)).take (HT.sIx its.length its.length hi-HT.sIx its.length 0 lo)).toArray:=by let⟨h1,h2,h3⟩:=zfu lo hi its.toArray.size;unfold slicePick;rw[h1,h2,h3];simp![sliceRange_one,pick_run,size_toArray]<;>rfl
abbrev rSlL(K:Frag):V->Option Int->Option Int->Hp->VK->Prop:=λx lo hi H Q=>∃a xs,x=.ref a/\SqL K H a xs/\∀p,H p=Ψ->Q (.ref p) (upd H p (.lst (cutV xs lo hi)))
def zm8:SlR X (rSlL X.K):=by intro pins s σ H x v vl vu lo hi sl Q I rx hs pl pu h;let⟨a,xs,rfl,hx,q⟩:=h;cases rx;let⟨its,r,ht,hz⟩:=I.list hx;have hlen:=r.length;refine⟨"list",_,slot_list_getitem.lookup,ht.isList.typeIs,?_⟩;refine wpAny_getItem_list_slice ht.isList hs pl pu .none (by simp) ?_ (by rw[size_toArray]<;>lia);rw[zeK,<-hlen];refine⟨.ref s.heap.objs.size,_,I.laid (t':=s.toks) (o:=.lst (cutV xs lo hi)) (λb ob q=>Α _ q) (le_refl _) ?_,rfl,q _ (I.hok.fresh (le_refl _))⟩;exact⟨le_trans (zdU xs lo hi) hz,_,0,(r.drop (HT.sIx xs.length 0 lo)).take (HT.sIx xs.length xs.length hi-HT.sIx xs.length 0 lo),Μ _ rfl⟩
def zbQ:za0 X (.builtin "len") (λxs H Q=>∃p ys,xs=[.ref p]/\(SqL X.K H p ys\/SqT X.K H p ys)/\Q (.int ys.length) H):=by intro pins s σ H xs us Q I r h;let⟨p,ys,rfl,hq,q⟩:=h;let⟨u,rfl,rx⟩:=zkS r;cases rx;have hn:=zej;rcases hq with hq|hq;let⟨its,r',pl,hz⟩:=I.list hq;have hlen:=r'.length;exact Calls.call_len_list pl.isList (by simp![size_toArray]<;>lia) ⟨.int ys.length,H,I.tok _,⟨s.toks+1,by rw[size_toArray,hlen]⟩,q⟩;let⟨its,r',pl,hz⟩:=I.tuple hq;have hlen:=r'.length;exact len_tuple pl (by simp![size_toArray]<;>lia) ⟨.int ys.length,H,I.tok _,⟨s.toks+1,by rw[size_toArray,hlen]⟩,q⟩
def zf9:za0 X (.type "list") (λxs H Q=>∃p ys,xs=[.ref p]/\(SqL X.K H p ys\/SqT X.K H p ys)/\∀l,H l=Ψ->Q (.ref l) (upd H l (.lst ys))):=by
 intro pins s σ H xs us Q I r h;let⟨p,ys,rfl,hq,q⟩:=h;let⟨u,rfl,rx⟩:=zkS r;cases rx;have fin:∀(its:List Ω),Vals ys its->ys.length<=sizeLine->∀(h':Heap)(c':Nat),(∀b o',s.heap.get? b=Φ o'->h'.get? b=Φ o')->
   h'.get? s.heap.objs.size=Φ {cls:=.type "list",dict:=Ψ,data:=.seq its.toArray c',slots:=#[]}->EP X pins σ Q (.ref s.heap.objs.size) {s with heap:=h'}:=λits r' hz h' c' kp e=>
  ⟨.ref s.heap.objs.size,_,I.laid (t':=s.toks) kp (le_refl _) (show ObjOk X.prog X.w _ h' _ (.lst ys) from⟨hz,its,c',r',e⟩),rfl,q _ (I.hok.fresh (le_refl _))⟩
 rcases hq with hq|hq;let⟨its,r',pl,hz⟩:=I.list hq;have hlen:=r'.length;let⟨o,ho,hc,n,hd⟩:=pl.isList;exact call_list_seq p (.inl rfl) ho hc hd (λh' c' kp e=>fin its r' hz h' c' kp e) (by simp![size_toArray]<;>lia);let⟨its,r',pl,hz⟩:=I.tuple hq;have hlen:=r'.length;let⟨o,ho,hc,n,hd⟩:=pl;exact call_list_seq p (.inr rfl) ho hc hd (λh' c' kp e=>fin its r' hz h' c' kp e) (by simp![size_toArray]<;>lia)
def zfd:za0 X (.type "tuple") (λxs H Q=>∃p ys,xs=[.ref p]/\((SqL X.K H p ys/\∀l,H l=Ψ->Q (.ref l) (upd H l (.tup ys)))\/(SqT X.K H p ys/\Q (.ref p) H))):=by intro pins s σ H xs us Q I r h;let⟨p,ys,rfl,h⟩:=h;let⟨u,rfl,rx⟩:=zkS r;cases rx;rcases h with⟨hq,q⟩|⟨hq,q⟩;let⟨its,r',pl,hz⟩:=I.list hq;have hlen:=r'.length;refine call_tuple_list pl.isList (λh' kp=>?_) (by simp![size_toArray]<;>lia);have I1:Inv X pins σ H {s with heap:=h'}:=I.kept (t':=s.toks) kp;have I2:Inv X pins σ (upd H h'.objs.size (.tup ys)) {s with heap:=h'.push {cls:=.type "tuple",data:=.seq its.toArray}}:=I1.laid (t':=s.toks) (λb o e=>Α _ e) (le_refl _) (show ObjOk X.prog X.w _ _ _ (.tup ys) from⟨hz,its,r',IsTup.new _ _⟩);exact⟨.ref h'.objs.size,_,I2,rfl,q _ (I1.hok.fresh (le_refl _))⟩;let⟨its,r',pl,hz⟩:=I.tuple hq;exact call_tuple_same pl ⟨.ref p,H,I,rfl,q⟩
abbrev tyV(K:Frag)(T:String)(x:V)(H:Hp):Prop:=match x with
 |.str _=>T="str"|.int _=>T="int"
 |.ref p=>(T="list"/\∃xs,SqL K H p xs)\/(T="tuple"/\∃o,K.lookup p=Φ o/\o.cls=.type "tuple"/\o.dict=Ψ)\/
  (T="dict"/\((∃kvs,H p=Φ (.dK kvs))\/∃kvs,H p=Φ (.dT kvs)))\/(T="set"/\∃S n,H p=Φ (.set S n))
 |_=>False
def zoX(I:Inv X pins σ H s)(r:RelV x v)(ty:tyV X.K T x H):
  s.TypeIs v T/\∀a,v=.ref a->∃ob,s.heap.get? a=Φ ob/\ob.dict=Ψ:=by
 cases x with
 |str z=>let⟨t,rfl⟩:=r;cases(show T="str" from ty);exact⟨typeIs_str s z t,λ_ e=>by cases e⟩| int i=>let⟨t,rfl⟩:=r;cases(show T="int" from ty);exact⟨typeIs_int s i t,λ_ e=>by cases e⟩| ref p=>
  cases r;rcases ty with⟨rfl,xs,hq⟩|⟨rfl,o,hk,hc,hd⟩|⟨rfl,hk⟩|⟨rfl,S,n,hk⟩;let⟨its,_,pl,_⟩:=I.list hq;refine⟨pl.isList.typeIs,λa e=>?_⟩;cases e;let⟨o,n,e,c,hd,_⟩:=pl;exact⟨o,e,hd⟩;refine⟨⟨o,I.kIn p o hk,hc⟩,λa e=>?_⟩;cases e;exact⟨o,I.kIn _ o hk,hd⟩;have z:∃o,s.heap.get? p=Φ o/\o.ExactDict:=by rcases hk with⟨kvs,hk⟩|⟨kvs,hk⟩;let⟨_,_,_,_,o,_,_,e,ex,_⟩:=I.hok p _ hk;exact⟨o,e,ex⟩;let⟨_,_,_,_,o,_,_,e,ex,_⟩:=I.hok p _ hk;exact⟨o,e,ex⟩
  let⟨o,e,ex⟩:=z;refine⟨⟨o,e,ex.1⟩,λa e2=>?_⟩;cases e2;exact⟨o,e,ex.2.1⟩;let⟨o,_,_,_,e,ex,_⟩:=I.hok p _ hk;refine⟨⟨o,e,ex.1⟩,λa e2=>?_⟩;cases e2;exact⟨o,e,ex.2.1⟩
 |_=>exact False.elim ty
abbrev tBM(K:Frag)(T:String)(r:V->List V->Hp->VK->Prop)(to:TE)(t:TA):TE:=λσ H Q=>to σ H λx H1=>tyV K T x H1/\t σ H1 λxs H2=>r x xs H2 Q
variable{o e:Expr}{es:List Expr}{to:TE}{t:TA}{name:Str}{apos cpos:Pos}{T id:String}{r:V->List V->Hp->VK->Prop}
def zqa(pa:PlainAttrs T)(slot:Slot T name id)(hty:typeOf (.builtin id)=pure (.type "method_descriptor"))(hm:MtR X id r)(ho:PE X o to)(ha:PA X (e::es) t)
  (hbase:attributeBase o name X.env (eval o X.env)=eval o X.env:=by rfl)
  (hfew:((backTo cpos (starEach (e::es) X.env)).all (λx=>!x.1)&&(backToKw cpos (keywordEach [] X.env)).all (λx=>x.1.isSome)
   && decide ((e::es).length+([]:List Keyword).length+(if([]:List Keyword).isEmpty then 0 else 1)<30))=Δ:=by rfl)
  (hline:(apos.endLine==cpos.line)=Δ:=by rfl) (hs:starEach (e::es) X.env=(Θ,eval e X.env)::starEach es X.env:=by rfl) (hplain:(backTo cpos (starEach es X.env)).any (·.1)=Θ:=by rfl) :
  PE X (.Call (.Attribute o name apos) (e::es) [] cpos) (tBM X.K T r to t):=by
 intro pins s σ H Q I h;refine wpAny_Call_method_late hbase hfew hline rfl (thn (ho pins s σ H _ I h) λv s1 z=>?_);let⟨x,H1,I1,r1,ty,q1⟩:=z;let⟨h1,h2⟩:=zoX I1 r1 ty;refine⟨T,id,pa,slot,hty,h1,h2,?_⟩;have hA:=ha cpos pins s1 σ H1 _ I1 q1;rw[hs]at hA⊢;refine Calls.callWith_builtin (by show(Θ||(backTo cpos (starEach es X.env)).any (·.1))=Θ;rw[hplain]<;>rfl) (Calls.evalArgs_plain ?_);exact thn hA λus s2 k=>(by let⟨vs,H2,I2,r2,q2⟩:=k;exact hm pins s2 σ H2 x vs v us Q I2 r1 r2 q2)
end
abbrev MtM(X:Cx)(id:String)(r:V->List V->Hp->VK->Prop):Prop:=
 ∀(pins:List (Addr×Obj))(s:Ι)(σ:St)(H:Hp)(x:V)(xs:List V)(v:Ω)(us:List Ω)(Q:VK),Inv X pins σ H s->RelV x v->Vals xs us->r x xs H Q->
  wpAny (model X.prog X.w) X.A (call (.builtin id) (v::us)) (EP X pins σ Q) X.xe s
def Vals.one{x:V}{us:List Ω}(h:Vals [x] us):∃u,us=[u]/\RelV x u:=by cases h with|cons r t=>cases t;exact⟨_,rfl,r⟩
def Vals.eraseIdx:∀{xs:List V}{us:List Ω}(i:Nat),Vals xs us->Vals (xs.eraseIdx i) (us.eraseIdx i)
 |_,_,_,.nil=>.nil|_,_,0,.cons _ t=>t|_,_,i+1,.cons r t=>.cons r (Vals.eraseIdx i t)
def zfR{α:Type}:∀(l:List α)(i:Nat),(l.eraseIdx i).length<=l.length
 | [],_=>le_refl _|_::_,0=>le_succ _|_::r,i+1=>Nat.succ_le_succ (zfR r i)
section
variable{X:Cx}{pins:List (Addr×Obj)}{σ:St}{H:Hp}{s:Ι}{l b:Addr}{xs ys zs:List V}
def Inv.lset{its its':List Ω}(I:Inv X pins σ H s)(a:H l=Φ (.lst xs))(e:s.heap.get? l=Φ {cls:=.type "list",data:=.seq its.toArray n})(c:f its.toArray=its'.toArray)(d:Vals ys its')(hz:ys.length<=sizeLine):
  Inv X pins σ (upd H l (.lst ys)) {s with heap:=s.heap.update l (Obj.mapSeq f),toks:=t'}:=by
 have q:=PySem.IsL.update e f;rw[c]at q;refine I.write (x:=l) (e:=l) (by rw[a];exact trivial) (.inl rfl) (λi u g h=>(Heap.get?_update_other s.heap (Obj.mapSeq f) (Ne.symm g)).trans h) ⟨_,q⟩ ?_;exact⟨hz,its',_,d,q⟩
def Inv.lnew(I:Inv X pins σ H s)(a:Vals ys its)(hz:ys.length<=sizeLine):
  Inv X pins σ (upd H s.heap.objs.size (.lst ys)) {s with heap:=s.heap.push {cls:=.type "list",data:=.seq its.toArray},toks:=t'}:=
 I.laid (λ_ _ q=>Α _ q) (le_refl _) ⟨hz,its,0,a,Μ _ rfl⟩
def Inv.fresh(I:Inv X pins σ H s):H s.heap.objs.size=Ψ:=I.hok.fresh (le_refl _)
def Inv.lstM(I:Inv X pins σ H s)(a:H l=Φ (.lst xs)):xs.length<=sizeLine/\∃(its:List Ω) (n:Nat),Vals xs its/\xs.length=its.length/\s.heap.get? l=Φ {cls:=.type "list",data:=.seq its.toArray n}:=by let⟨z,its,n,r,e⟩:=I.hok l _ a;exact⟨z,its,n,r,r.length,e⟩
def zlz(h:n<=sizeLine):Builtin.List.listTooLong n=Θ:=by unfold Builtin.List.listTooLong;exact decide_eq_false (by lia)
end
section
variable{X:Cx}
abbrev zny:V->List V->Hp->VK->Prop:=λx vs H Q=>∃l xs y,x=.ref l/\vs=[y]/\H l=Φ (.lst xs)/\xs.length<sizeLine/\Q .non (upd H l (.lst (xs++[y])))
def zfK:MtM X "list.append" zny:=by intro pins s σ H x vs v us Q I rx rv h;let⟨l,xs,y,rfl,rfl,hH,hz,q⟩:=h;cases rx;let⟨u,rfl,ru⟩:=rv.one;let⟨z,its,n,r,hl,e⟩:=I.lstM hH;refine call_meets F.slot_list_append ⟨_,e,rfl⟩ F.entry_list_append (F.args_list_append_2 _ _) (PySem.list_append l its.toArray n u (by rw[size_toArray];lia)) ⟨e,?_⟩;refine⟨.non,_,I.lset (its':=its++[u]) hH e (by simp) (r.append (.cons ru .nil)) ?_,rfl,q⟩;rw[length_append,List.length_singleton];lia
abbrev znx:V->List V->Hp->VK->Prop:=λx vs H Q=>∃l b xs zs,x=.ref l/\vs=[.ref b]/\H l=Φ (.lst xs)/\H b=Φ (.lst zs)/\xs.length+zs.length<=sizeLine/\Q .non (upd H l (.lst (xs++zs)))
def zjE:MtM X "list.extend" znx:=by
 intro pins s σ H x vs v us Q I rx rv h;let⟨l,b,xs,zs,rfl,rfl,hH,hB,hz,q⟩:=h;cases rx;let⟨u,rfl,ru⟩:=rv.one;cases ru;let⟨z,its,n,r,hl,e⟩:=I.lstM hH;let⟨z2,its2,n2,r2,hl2,e2⟩:=I.lstM hB;have hsz:its.toArray.size+its2.toArray.size<=sizeLine:=by rw[size_toArray,size_toArray];lia
 have hlong:¬(!its.toArray.isEmpty&&Builtin.List.listTooLong (its.toArray.size+its2.toArray.size))=Δ:=by rw[zlz hsz,Bool.and_false];exact Ε
 refine call_meets F.slot_list_extend ⟨_,e,rfl⟩ F.entry_list_extend (F.args_list_extend_2 _ _)
  (AutoSeq1.list_extend_list_list_0 l its.toArray n b its2.toArray n2 hlong (by rw[size_toArray];lia) (by lia)) ⟨e,e2,?_⟩
 refine⟨.non,_,I.lset (its':=its++its2) hH e (by simp) (r.append r2) ?_,rfl,q⟩;rw[length_append];lia
abbrev zpO:V->List V->Hp->VK->Prop:=λx vs H Q=>∃l xs i k y,x=.ref l/\vs=[.int i]/\H l=Φ (.lst xs)/\-(2^63)<=i/\i<2^63/\seqIndex? i xs.length=Φ k/\xs[k]?=Φ y/\Q y (upd H l (.lst (xs.eraseIdx k)))
def zlA:MtM X "list.pop" zpO:=by
 intro pins s σ H x vs v us Q I rx rv h;let⟨l,xs,i,k,y,rfl,rfl,hH,h1,h2,hk,hy,q⟩:=h;cases rx;let⟨u,rfl,ru⟩:=rv.one;let⟨t,rfl⟩:=ru;let⟨z,its,n,r,hl,e⟩:=I.lstM hH;let⟨w,hw,rw'⟩:=r.get hy;refine call_meets F.slot_list_pop ⟨_,e,rfl⟩ F.entry_list_pop (F.args_list_pop_2 _ _)
  (MeetsSeq.list_pop_at l its.toArray n i t k w (fitsIndex_both h1 h2) (by rw[size_toArray,<-hl];exact hk) (by rw[<-ϋ];exact hw) (by rw[size_toArray];lia)) ⟨e,?_⟩
 refine⟨y,_,I.lset (its':=its.eraseIdx k) hH e ?_ (r.eraseIdx k) ?_,rw',q⟩;show its.toArray.eraseIdxIfInBounds k=(its.eraseIdx k).toArray;rw[List.eraseIdxIfInBounds_toArray];have:=zfR xs k;lia
abbrev rCat:R2:=λx y H Q=>∃l b xs zs,x=.ref l/\y=.ref b/\H l=Φ (.lst xs)/\H b=Φ (.lst zs)/\xs.length+zs.length<=sizeLine/\∀p,H p=Ψ->Q (.ref p) (upd H p (.lst (xs++zs)))
def zqm:OpR X (binaryOp .Add) rCat:=by
 intro pins s σ H x y v u Q I rx ry h;let⟨l,b,xs,zs,rfl,rfl,hH,hB,hz,q⟩:=h;cases rx;cases ry;let⟨z,its,n,r,hl,e⟩:=I.lstM hH;let⟨z2,its2,n2,r2,hl2,e2⟩:=I.lstM hB;refine PySem.P.add_list e e2 ?_ (by rw[size_toArray,size_toArray];lia);have ea:its.toArray++its2.toArray=(its++its2).toArray:=by simp
 rw[ea];exact⟨.ref _,_,I.lnew (t':=s.toks) (r.append r2) (by rw[length_append];lia),rfl,q _ I.fresh⟩
end
end L2
namespace Att
open PySem PySem.W PySem.Calls PyProof.Rows
def zdK:∀(ns:List Int)(vs:List Ω),WellAll P h vs (ns.map WData.int)->IntsAre vs ns:=by intro ns;induction ns with| nil=>intro vs w;rw[map_nil]at w;cases w;exact .nil| cons n ns ih=>intro vs w;rw[ϊ]at w;cases w with| cons a b=>cases a;exact .cons _ _ (ih _ b)
def zi7{l:OpenLaw}(hn:l.most=Φ n)(hpre:l.row.toRowW.claim.pre args=Δ)(hwl:WellAll P h vals args):
  ∃a vs ns,vals=[Ω.ref a]/\args=[WData.list (ns.map WData.int)]/\h.get? a=Φ {cls:=.type "list",data:=.seq vs.toArray}/\IntsAre vs ns/\ns.length<=n:=by
 have hsh:WShape.hasAll [] args [.list .int]=Δ:=(pre_splitW hpre).1;have hc:l.pre.holds [] {args:=args}=Δ:=(pre_splitW hpre).2;let⟨d,r,rfl,h1,h2⟩:=hasAllW_cons hsh;obtain rfl:=hasAllW_nil h2;let⟨xs,rfl,h3⟩:=hasW_list h1;let⟨ns,rfl⟩:=items_int h3;have hlen:ns.length<=n:=by
  unfold OpenLaw.pre at hc;have h4:(WTm.not (.lt (.lit (.int (n:Int))) (.len (.arg 0)))).holds [] {args:=[.list (ns.map .int)]}=Δ:=by have h4:=(holds_andW hc).1;rw[hn]at h4;exact h4
  have h5:=condW_of h4 (w_not (w_lt w_lit (w_len_list (w_arg rfl))));rw[length_map]at h5;refine Nat.le_of_not_lt λq=>?_;have q':(n:Int)<((ns.length:Nat):Int):=by omega
  first
   |(rw[decide_eq_true q']at h5;exact absurd h5 (by decide))
   |(simp at h5;omega)
 cases hwl with| cons w1 w2=>cases w2;cases w1 with|list ho hall=>exact⟨_,_,ns,rfl,rfl,ho,zdK ns _ hall,hlen⟩
def zjo(l:OpenLaw)(args):l.row.toRowW.claim.post args (.bool Δ) args=Δ:=
 postW_of (r:=l.row.toRowW) (X:=(Δ==Δ))
  (show WShape.has [] (.bool Δ) .bool=Δ by first|rfl|decide|simp[WShape.has,WShape.arms,WShape.armsAll])
  (show(WTm.eq .res (.lit (.bool Δ))).value [] {args:=args,res:=Φ (.bool Δ),after:=args}=Φ (.bool (Δ==Δ)) from w_eq_bool (w_res rfl) w_lit) rfl
def attach_call{l:OpenLaw}(hn:l.most=Φ n)(hdf:d.params.defaults=[])(call:∀(w:ϒ)(s₀ s₁:Ι)(mg mb:Str->Option Ω)(fa:Addr)(o:Obj)(pm cd doc:Ω)(a:Addr)(vs:List Ω)(ns:List Int),
   Ground q loose [] XP w s₀ mg mb s₁.heap->YP w s₁.heap->
   s₁.heap.get? fa=Φ o->o.data=.func (docDef d.name d.params d.body d.scope pm cd doc)->s₁.heap.CodeRec cd d.name->mg d.name=Φ (.ref fa)->
   s₁.heap.get? a=Φ {cls:=.type "list",data:=.seq vs.toArray}->IntsAre vs ns->ns.length<=n->s₁.gens = #[]->
   codeAny (model l.prog w) callerA (.call (.ref fa) ⟨[.ref a],[]⟩) (λr s'=>r=.ok (.ret (.bool Δ))/\OldK s₁.heap s'.heap/\s'.os=s₁.os/\AllBare s'.gens) s₁):
  WalkO q loose XP YP l.row.toRowW d [] (λf vs=>PySem.call f vs):=by
 intro w s₀ s₁ mg mb G Y fa o pm cd doc dV kV ho hd hcd hD hmg hg args vals as hpre hlay hrd hwl hlo;obtain rfl:dV=.none:=Dflts.none hD hdf;obtain rfl:kV=.none:=Dflts.noKw hD;let⟨a,vs,ns,rfl,rfl,hobj,hints,hlen⟩:=zi7 hn hpre hwl;refine enter_call (ϩ (call w s₀ s₁ mg mb fa o pm cd doc a vs ns G Y ho (fd_plain hd) hcd hmg hobj hints hlen hg) λr s' hq=>?_);let⟨rfl,h2,h3,h4⟩:=hq;exact⟨.inl ⟨.bool Δ,.bool Δ,[],rfl,λ_=>rfl,.bool Δ,zjo l _,λ_=>⟨Pairwise.nil,λ_ hm=>(by cases hm)⟩⟩,h2,h3,h4⟩
end Att
namespace L2
open PySem PySem.Spec PyProof.Rows
def zdi:∀{vs:List Ω}{ns:List Int},IntsAre vs ns->Vals (ns.map V.int) vs
 |_,_,.nil=>.nil|_,_,.cons n t h=>.cons ⟨t,rfl⟩ (zdi h)
abbrev Only(H:Hp):Prop:=∀b,H b=Ψ\/∃o xs,H b=Φ (.frz o (.lst xs))
def zlG{K}(KX:K.In s₁.heap)(hns:s₁.heap.Ns mainGlobals mg)(hb:s₁.heap.Ns builtinsNs mb)(hbb:∀x:Str,x≠"__name__"->mb x=bootBuiltins x)(hlim:s₁.heap.NoLimit)(hg:s₁.gens = #[])(ha:s₁.heap.get? a=Φ {cls:=.type "list",data:=.seq vs.toArray})(hi:IntsAre vs ns)(hl:ns.length<=sizeLine)(hr:Room k callerA)(F:∀base:Heap,K.In base->base.Ns mainGlobals mg->FnOk P w K mg base CX k fa fd [x] sp)(hbind:∀(s:Ι)(u:Ω),BindsTo s fd ⟨[u],[]⟩ [(x,u)])(hsp:∀H:Hp,Only H->SqL K H a (ns.map V.int)->sp [.ref a] H (λv _=>v=.bl Δ) λ_ _ _=>False)(hCX:∀H e s',CX [] H s₁ (λ_ _ _=>False) e s'->False):
  codeAny (model P w) callerA (.call (.ref fa) ⟨[.ref a],[]⟩) (λr s'=>r=.ok (.ret (.bool Δ))/\OldK s₁.heap s'.heap/\s'.os=s₁.os/\AllBare s'.gens) s₁:=by
 have rv:=zdi hi;have lenV:=hi.length
 -- from an abstract heap in which nothing but the script may be tracked
 have core:∀H:Hp,Only H->SqL K H a (ns.map V.int)->HOk P w H s₁.heap->(∀b,H b≠Ψ->b=a)->(H a≠Ψ->K.lookup a=Ψ)->
   codeAny (model P w) callerA (.call (.ref fa) ⟨[.ref a],[]⟩) (λr s'=>r=.ok (.ret (.bool Δ))/\OldK s₁.heap s'.heap/\s'.os=s₁.os/\AllBare s'.gens) s₁:=by
  intro H hO hS hok hA hK;have base_of:∀{b:Addr}{o:Obj},s₁.heap.get? b=Φ o->H b=Ψ->(hidT s₁.heap H).get? b=Φ o:=λe n=>zlL e n;have noA:∀{b:Addr}{o:Obj}{es:Array DictEntry}{ep:Nat},s₁.heap.get? b=Φ o->o.data=.dict es ep->H b=Ψ:=λ{b o es ep} e d=>by cases q:H b with|none=>rfl| some u=>have e':b=a:=hA b (by rw[q];simp);subst e';rw[ha]at e;cases e;have d':Data.seq vs.toArray _=Data.dict es ep:=d;cases d'
  have nsK:∀{b:Addr}{m:Str->Option Ω},s₁.heap.Ns b m->(hidT s₁.heap H).Ns b m:=λ{b m} ⟨o,es,ep,e,d,r⟩=>⟨o,es,ep,base_of e (noA e d),d,r⟩;have hKb:K.In (hidT s₁.heap H):=λb o e=>base_of (KX b o e) (by
   cases q:H b with|none=>rfl| some u=>have e':b=a:=hA b (by rw[q];simp);subst e';rw[hK (by rw[q];simp)]at e;exact nS e)
  have hM:Mod K mg (hidT s₁.heap H):=⟨hKb,nsK hns,⟨mb,nsK hb,hbb⟩,let ⟨mc,h1,h2⟩:=hlim;⟨mc,nsK h1,h2⟩⟩;have e0:Env0 P w K mg (hidT s₁.heap H) callerA [] s₁ H:=⟨rfl,hM,λb o e=>znW e,le_of_eq (zkh _ _),trivial,λb hb=>absurd (show b∈([]:List Addr) from hb) (by simp),hok,.of_eq hg⟩;refine ϩ ((F _ hKb (nsK hns)).run callerA [] s₁ H ⟨[.ref a],[]⟩ [.ref a] [.ref a] _ _ hr e0 (hbind s₁ (.ref a)) (.cons rfl .nil) (hsp H hO hS)) λr s' h=>?_;cases r with|error e=>exact(hCX H e s' h).elim| ok fl=>cases fl with|next=>exact False.elim h|brk=>exact False.elim h|cont=>exact False.elim h| ret u=>let⟨v,H',os,bare,un,hok',r',q⟩:=h;have q':v=.bl Δ:=q;subst q';obtain rfl:u=Ω.bool Δ:=r';refine⟨rfl,OldK.of_keep λb o e=>?_,os,bare⟩;cases q:H b with|none=>exact un.keep b o e q (by intro z;exact absurd (show b∈([]:List Addr) from z) (by simp)) (by simp)| some u=>rcases hO b with z|⟨ob,xs,z⟩;rw[q]at z;cases z;have z2:=un.frzs b ob _ z;let⟨e1,_⟩:=hok b _ z;let⟨e2,_⟩:=hok' b _ z2;rw[e]at e1;cases e1;exact e2
 cases hk:K.lookup a with
 |some o=>
  -- the script is one of the module's own objects
  have e:=KX a o hk;rw[ha]at e;cases e;refine core (λ_=>Ψ) (λ_=>.inl rfl) (.inr ⟨_,vs.toArray,_,hk,rfl,rfl,rfl,by rw[size_toArray,lenV];exact hl,by simpa using rv⟩) (λb u z=>by have z':(Ψ:Option HO)=Φ u:=z;exact nS z') (λb z=>absurd rfl z) λz=>absurd rfl z
 |none=>refine core (λb=>if b=a then Φ (.frz {cls:=.type "list",data:=.seq vs.toArray} (.lst (ns.map V.int))) else Ψ) (λb=>?_) (.inl (.inr ⟨{cls:=.type "list",data:=.seq vs.toArray},if_pos rfl⟩)) (λb u z=>?_) (λb z=>?_) λ_=>hk;by_cases hb:b=a;exact .inr ⟨_,_,if_pos hb⟩;exact .inl (if_neg hb);by_cases hb:b=a;have z':=(if_pos hb).symm.trans z;cases z';subst hb;exact⟨ha,by rw[length_map];exact hl,vs,_,rv,ha⟩;have z':=(if_neg hb).symm.trans z;exact nS z';by_cases hb:b=a;exact hb;exact absurd (if_neg hb) z
def walk_of{l:PySem.W.OpenLaw}{K:Params->Frag}{CX:ϒ->CXT}{sp:ϒ->Sp}(hn:l.most=Φ n)(hn2:n<=sizeLine)(hdf:d.params.defaults=[])(hr:Room k callerA)(hY:∀(w:ϒ)(h:Heap),YP w h->(K w.params).In h)(F:∀(w:ϒ)(mg:Str->Option Ω)(fa:Addr)(h:Heap),(K w.params).In h->h.Ns mainGlobals mg->mg d.name=Φ (.ref fa)->
   ∃fd:FuncData,(∀(s:Ι)(u:Ω),BindsTo s fd ⟨[u],[]⟩ [(x,u)])/\
    ∀base:Heap,(K w.params).In base->base.Ns mainGlobals mg->FnOk l.prog w (K w.params) mg base (CX w) k fa fd [x] (sp w))(hsp:∀(w:ϒ)(H:Hp)(a:Addr)(ns:List Int),ns.length<=n->Only H->SqL (K w.params) H a (ns.map V.int)->sp w [.ref a] H (λv _=>v=.bl Δ) λ_ _ _=>False)(hCX:∀(w:ϒ)(H:Hp)(s:Ι)(e:Ω)(s':Ι),CX w [] H s (λ_ _ _=>False) e s'->False):
  PySem.W.WalkO q loose XP YP l.row.toRowW d [] (λf vs=>PySem.call f vs):=by
 refine Att.attach_call hn hdf λw s₀ s₁ mg mb fa o pm cd doc a vs ns G Y ho hd hcd hmg hobj hints hlen hg=>?_;have KX:=hY w _ Y;let⟨fd,hb,hF⟩:=F w mg fa _ KX G.T.g hmg;exact zlG KX G.T.g G.T.b G.T.builtins G.T.nolimit hg hobj hints (le_trans hlen hn2) hr hF hb (λH hO hS=>hsp w H a ns hlen hO hS) λH e s'=>hCX w H s₁ e s'
abbrev zaG(s:Stmt):Arguments:=match s with|.FunctionDef _ a _ _ _ _ _ _ _ _=>a|_=>{posonlyargs:=[],args:=[],vararg:=Ψ,kwonlyargs:=[],kw_defaults:=[],kwarg:=Ψ,defaults:=[]}
abbrev zas(s:Stmt):List Stmt:=match s with|.FunctionDef _ _ b _ _ _ _ _ _ _=>b|_=>[]
abbrev zad(s:Stmt):Scope:=match s with|.FunctionDef _ _ _ _ _ _ sc _ _ _=>sc|_=>{kind:=.function,names:=[],isGenerator:=Θ,isCoroutine:=Θ}
@[reducible]def CX0:CXT:=λ_ _ _ _ _ _=>False
@[reducible]def E0:XK:=λ_ _ _=>False
def zid:zd1 CX0 X E0:=λ_ _ _ _ _ _ _ h=>h.elim
structure Fun(K:Frag)(x qual:Str)(st:Stmt)(f:Addr)(fd:FuncData):Prop where
 ex:∃(oc:Ω) (od:Option Addr) (kV doc pm:Ω) (an:Option Addr) (cdv ct:Ω) (osl:Array (Option Ω)),
  fd=fnOf x qual (zaG st) (zas st) (zad st) .none kV doc pm an cdv ct/\K.lookup f=Φ ⟨oc,od,.func fd,osl⟩/\codeIn K cdv qual=Δ
 kp:keepIn K (.ref f)=Δ
abbrev Same(H H':Hp):Prop:=∀b o,H b=Φ o->H' b=Φ o
abbrev za6(cells:List (Str×Addr))(y:Str×NameKind)(acc:List (Str×Addr)):List (Str×Addr):=if(y.2==NameKind.free)=Δ then(match cells.lookup y.1 with|some c=>(y.1,c)::acc|none=>acc) else acc
abbrev zgX(cells:List (Str×Addr))(names:List (Str×NameKind))(acc:List (Str×Addr)):List (Str×Addr):=names.foldl (λa y=>za6 cells y a) acc
def zdP{α β:Type}(f)(g:α->β->β):∀(l:List α)(b:β),(∀x∈l,∀b,f x b=pure (.yield (g x b)))->forIn l b f=(pure (l.foldl (λb x=>g x b) b):Sem β)
 | [],b,_=>rfl| x::l,b,h=>by rw[List.forIn_cons,h x Υ,pure_bind];exact zdP f g l _ λy hy=>h y (Ρ _ hy)
def zbz(h:∀y∈scope.names,y.2=.free->∃c,env.cells.lookup y.1=Φ c):
  closureFor scope env=pure (zgX env.cells scope.names []):=by
 unfold closureFor zgX;dsimp only;rw[zdP _ (λy a=>za6 env.cells y a)];simp;intro y hy a;let⟨n,k⟩:=y;by_cases hk:k=.free;let⟨c,hc⟩:=h _ hy hk;subst hk;simp at hc;simp[cellOf,hc,za6];have:(k==NameKind.free)=Θ:=by simpa using hk
 simp[this,za6]
def zf8:∀(names:List (Str×NameKind))(acc:List (Str×Addr)),(∀x c,acc.lookup x=Φ c->cells.lookup x=Φ c)->
  ∀x c,(zgX cells names acc).lookup x=Φ c->cells.lookup x=Φ c
 | [],acc,h=>h| y::r,acc,h=>by
  refine zf8 r (za6 cells y acc) ?_;intro x c e;unfold za6 at e;split at e;split at e;rename_i c' hc';rw[lookup_cons]at e;cases hx:x==y.1 with| true=>rw[hx]at e;have q:x=y.1:=beq_iff_eq.mp hx;have e':c'=c:=Option.some.inj e;rw[q,<-e'];exact hc'|false=>rw[hx]at e;exact h x c e
  exact h x c e;exact h x c e
def zdW:∀(names:List (Str×NameKind))(acc:List (Str×Addr))(x:Str),(∀y∈names,y.2=.free->∃c,cells.lookup y.1=Φ c)->
  ((∃c,acc.lookup x=Φ c)\/(x,NameKind.free)∈names)->∃c,(zgX cells names acc).lookup x=Φ c
 | [],acc,x,_,h=>by rcases h with h|h;exact h;cases h
 |y::r,acc,x,hf,h=>by
  refine zdW r (za6 cells y acc) x (λz hz=>hf z (Ρ _ hz)) ?_;rcases h with⟨c,h⟩|h;left;unfold za6;split;split;rename_i c' hc';rw[lookup_cons];cases hx:x==y.1 with|true=>exact⟨c',rfl⟩|false=>exact⟨c,h⟩
  exact⟨c,h⟩;exact⟨c,h⟩;rcases mem_cons.mp h with h|h;left;subst h;let⟨c,hc⟩:=hf _ Υ rfl;refine⟨c,?_⟩;simp at hc;simp[za6,hc];exact .inr h
abbrev zb7(env:Env)(y:Str×NameKind):Str×NameKind:=if(y.2==.free&&env.scope.kind==.function&&env.kindOf y.1==Φ .cell)=Δ then(y.1,.cell) else y
def zbr(scope)(env):(relabel scope env).names=scope.names.map (zb7 env):=by unfold relabel;show scope.names.map _=_;refine Ϣ λy _=>?_;let⟨n,k⟩:=y;rfl
def zds(env)(y):(zb7 env y).1=y.1:=by unfold zb7;split<;>rfl
def zdr(env)(y):(zb7 env y).2=y.2\/(y.2=.free/\(zb7 env y).2=.cell):=by unfold zb7;split;rename_i h;simp![Β,beq_iff_eq]at h;exact .inr ⟨h.1.1,rfl⟩;exact .inl rfl
def zbG(env)(x):∀names:List (Str×NameKind),∀k,(names.map (zb7 env)).lookup x=Φ k->∃k0,(x,k0)∈names/\names.lookup x=Φ k0/\(k=k0\/(k0=.free/\k=.cell))
 | [],k,h=>by simp at h| y::r,k,h=>by rw[ϊ]at h;have f1:=zds env y;have f2:=zdr env y;let⟨n,k1⟩:=y;generalize hz:zb7 env (n,k1)=z at *;let⟨zn,zk⟩:=z;simp only at f1 f2;subst f1;rw[lookup_cons]at h;rw[lookup_cons];cases hx:x==zn with| true=>rw[hx]at h;have q:x=zn:=beq_iff_eq.mp hx;subst q;have e:zk=k:=Option.some.inj h;subst e;exact⟨k1,Υ,rfl,f2⟩| false=>rw[hx]at h;let⟨k0,m,l,q⟩:=zbG env x r k h;exact⟨k0,Ρ _ m,l,q⟩
def zbs(env)(x):∀names:List (Str×NameKind),names.lookup x=Φ .free->(names.map (zb7 env)).lookup x=Φ .free\/(names.map (zb7 env)).lookup x=Φ .cell
 | [],h=>by simp at h| y::r,h=>by
  rw[ϊ];have f1:=zds env y;have f2:=zdr env y;let⟨n,k1⟩:=y;generalize hz:zb7 env (n,k1)=z at *;let⟨zn,zk⟩:=z;simp only at f1 f2;subst f1;rw[lookup_cons]at h;rw[lookup_cons];cases hx:x==zn with
  |true=>rw[hx]at h;have e:k1=.free:=Option.some.inj h;subst e;rcases f2 with f2|⟨_,f2⟩;left;show Φ zk=_;rw[f2];right;show Φ zk=_;rw[f2]
  |false=>rw[hx]at h;exact zbs env x r h
structure CompOk(sc scope:Scope)(N0:List Str)(js:List Nat):Prop where
 kind:scope.kind=.function
 nocell:∀y∈scope.names,y.2≠.cell
 locs:∀y∈scope.names,y.2=.local->scope.names.lookup y.1=Φ .local
 frees:∀y∈scope.names,y.2=.free->sc.names.lookup y.1=Φ .cell\/sc.names.lookup y.1=Φ .free
 caps:∀j∈js,scope.names.lookup (N0.getD j "")=Φ .free/\j<N0.length
noncomputable abbrev zaB(X:Cx)(N':List Str)(scope:Scope)(cl:List (Str×Addr))(C:Addr)(fp:List Addr)(s:Ι)(H:Hp)(pn:List (Addr×Obj)):Cx:={X with N:=N',s₀:=s,H₀:=H,env:=compEnvC scope cl C X.env,outer:=X.stack,stack:=X.stack,ex:=fp,fn:=λ_=>Θ,pn:=pn,xe:=λ_ _=>False}
abbrev csl(nt:Nat)(js:List Nat)(σ:St):St:=List.replicate nt Ψ++js.map λj=>(σ[j]?).join
noncomputable abbrev capN(N0:List Str)(tgs:List Str)(js:List Nat):List Str:=tgs++js.map λj=>N0.getD j ""
abbrev PTs(X:Cx)(ifs:List Expr)(t:TT):Prop:=
 ∀(pins:List (Addr×Obj))(s:Ι)(σ:St)(H:Hp)(Q:Bool->Hp->Prop),Inv X pins σ H s->t σ H Q->
  wpAny (model X.prog X.w) X.A (forIn ifs Δ λc r=>if r=Δ then do let ok <-isTrue c X.env (eval c X.env);pure (ForInStep.yield ok) else pure (ForInStep.yield r)) (TP X pins σ Q) X.xe s
abbrev tYes:TT:=λ_ H Q=>Q Δ H
def znD:PTs X [] tYes:=λpins s σ H Q I h=>wpAny_tests_nil ⟨H,I,h⟩
def zjn(h:PT X c t):PTs X [c] t:=λpins s σ H Q I q=>wpAny_tests_one (h pins s σ H Q I q)
abbrev zm0(nt:Nat)(js:List Nat)(wi:TI)(g:TG)(tt:TT)(te:TE):TE:=λσ H Q=>wi σ H λJ H1=>∀p,H1 p=Ψ->
 ∃W:Nat->Nat->St->Hp->Prop,(∃m,W 0 m (csl nt js σ) (upd H1 p (.lst [])))/\∀i m σ' H',W i m σ' H'->
  (J.stop i H'/\Q (.ref p) H')\/(J.go i H'/\∃N:St->Hp->Prop,(∀σ2 H2,N σ2 H2->∃m',m'<m/\W (i+1) m' σ2 H2)/\
   ∀x H2,J.yld i H' x H2->g x σ' H2 λσ2 H3=>tt σ2 H3 λb H4=>if b=Δ then te σ2 H4 λv H5=>∃acc,H5 p=Φ (.lst acc)/\acc.length<sizeLine/\N σ2 (upd H5 p (.lst (acc++[v]))) else N σ2 H4)
section
variable{prog:Χ}{w:ϒ}{A:ϔ}{R:Result->Ι->Prop}{s:Ι}
def ziz(J:Nat->Ι->Prop)(turn:∀n s,J n s->wpAny (model prog w) A (pyNext it) (λr s₁=>(r=Ψ/\R (.ok .next) s₁)\/∃v,r=Φ v/\
   wpAny (model prog w) A (letOwnedTupleGo tg it v) (λ_ s₀=>wpAny (model prog w) A (assign tg env v) (λ_ s₂=>
    wpAny (model prog w) A (forIn ifs Δ λc r=>if r=Δ then do let ok <-isTrue c env (eval c env);pure (ForInStep.yield ok) else pure (ForInStep.yield r)) (λok s₃=>
     if ok=Δ then wpAny (model prog w) A (eval elt env) (λx s₄=>wpAny (model prog w) A (call (.builtin "list.append") [acc,x]) (λ_ s₅=>∃m,m<n/\J m s₅) (λ_ _=>False) s₄) (λ_ _=>False) s₃
     else ∃m,m<n/\J m s₃) (λ_ _=>False) s₂) (λ_ _=>False) s₀) (λ_ _=>False) s₁) (λ_ _=>False) s)(n)(h:J n s):codeAny (model prog w) A (.compLoop (.ListComp elt [⟨tg,iter,ifs,0⟩] scope pos) 0 it acc env) R s:=by
 refine codeAny_loop rfl J (λn s hI=>?_) n h;show wpAny _ A ((compTurn (.ListComp elt [⟨tg,iter,ifs,0⟩] scope pos) 0 it acc env).onRaise (λx=>do noteFrame x env;theTreesLotGoes x)) _ _ s;refine wpAny_noted ?_;rw[compTurn_list];refine Ξ (wpAny_standAt (Ξ (Ϥ (turn n s hI) (λr s₁ h₁=>?_) λ_ _ f=>f.elim)));rcases h₁ with⟨rfl,h₁⟩|⟨v,rfl,h₁⟩;exact Λ h₁;refine Ξ (Ϥ h₁ (λ_ s₀ h₀=>?_) λ_ _ f=>f.elim);refine Ξ (Ϥ h₀ (λ_ s₂ h₂=>?_) λ_ _ f=>f.elim);refine Ξ (Ϥ h₂ (λok s₃ h₃=>?_) λ_ _ f=>f.elim);cases ok with|false=>exact Λ ⟨rfl,h₃⟩| true=>refine Ξ (Ξ (Ϥ h₃ (λx s₄ h₄=>?_) λ_ _ f=>f.elim));exact Ξ (Ϥ h₄ (λ_ s₅ h₅=>Λ (Λ ⟨rfl,h₅⟩)) λ_ _ f=>f.elim)
end
section
variable{X:Cx}{sc scope:Scope}{tgs:List Str}{js:List Nat}{elt tg iter:Expr}{ifs:List Expr}{pos:Pos}{wi:TI}{g:TG}{tt:TT}{te:TE}
def zel(hc:X.calm=Δ)(hsc:X.env.scope=sc)(ok:CompOk sc scope X.N js)(hg:∀cl C fp s H pn,PG (zaB X (capN X.N tgs js) scope cl C fp s H pn) tg g)(ht:∀cl C fp s H pn,PTs (zaB X (capN X.N tgs js) scope cl C fp s H pn) ifs tt)(he:∀cl C fp s H pn,PE (zaB X (capN X.N tgs js) scope cl C fp s H pn) elt te){RR:Ω->Addr->Result->Ι->Prop}{Q:VK}(I2:Inv X pins σ H2 s2)(T:Turn X.prog X.w X.K tg J fp it tn)(st2:tn 0 s2.heap)(f2:∀b∈fp,FpOk X pins H2 b)(rd:∀p,H2 p=Ψ->∃W:Nat->Nat->St->Hp->Prop,(∃m,W 0 m (csl tgs.length js σ) (upd H2 p (.lst [])))/\∀i m σ' H',W i m σ' H'->
   (J.stop i H'/\Q (.ref p) H')\/(J.go i H'/\∃N:St->Hp->Prop,(∀σ2 H2,N σ2 H2->∃m',m'<m/\W (i+1) m' σ2 H2)/\
    ∀x H2,J.yld i H' x H2->g x σ' H2 λσ2 H3=>tt σ2 H3 λb H4=>if b=Δ then te σ2 H4 λv H5=>∃acc,H5 p=Φ (.lst acc)/\acc.length<sizeLine/\N σ2 (upd H5 p (.lst (acc++[v]))) else N σ2 H4))(fin:∀p C H' s',Inv X pins σ H' s'->(∃m,s'.heap.Ns C m)->s2.heap.objs.size<C->H' C=Ψ->Q (.ref p) H'->RR (.ref p) C (.ok .next) s'):
  wpAny (model X.prog X.w) X.A (newList []) (λacc s₃=>wpAny (model X.prog X.w) X.A (newFunctionEnv scope X.env.globals (zgX X.env.cells scope.names []) [] X.env.qual Ψ .none (Φ X.env)) (λcenv s₄=>codeAny (model X.prog X.w) X.A (.compStart (.ListComp elt [⟨tg,iter,ifs,0⟩] scope pos) 0 (.ref it) acc {cenv with scope:=relabel scope X.env}) (RR acc cenv.locals) s₄) E s₃) E s2:=by
 subst hsc;refine ό (wpAny_newFunctionEnv ok.nocell (by intro y hy;simp at hy) (λh₁ hns₁ hsb₁=>?_) ok.kind);have I3:Inv X pins σ (upd H2 s2.heap.objs.size (.lst [])) {s2 with heap:=s2.heap.push {cls:=.type "list",data:=.seq ([]:List Ω).toArray}}:=I2.lnew (its:=[]) (ys:=[]) (t':=s2.toks) .nil (zero_le _);let⟨W,⟨m0,w0⟩,turn⟩:=rd _ I2.fresh;generalize hp:s2.heap.objs.size=p at *;generalize hs3:({s2 with heap:=s2.heap.push {cls:=.type "list",data:=.seq ([]:List Ω).toArray}}:Ι)=s3 at I3;have e3:s3.heap=s2.heap.push {cls:=.type "list",data:=.seq ([]:List Ω).toArray}:=by rw[<-hs3]
 have sz3:s3.heap.objs.size=p+1:=by rw[e3,ϓ,hp]
 generalize hH3:upd H2 p (.lst [])=H3 at *
 -- the block's frame
 have hns:h₁.Ns s3.heap.objs.size (λx=>([]:List (Str×Ω)).reverse.lookup x):=by rw[e3];exact hns₁
 have hsb:Heap.SameBut s3.heap.objs.size (s3.heap.push {cls:=.type "dict",data:=.dict #[]}) h₁:=by rw[e3];exact hsb₁
 have old:∀b o,s3.heap.get? b=Φ o->h₁.get? b=Φ o:=λb o e=>(hsb.2 b (ne_of_lt (Ν e))).trans (Α _ e);have frees:∀y∈scope.names,y.2=.free->∃c,X.env.cells.lookup y.1=Φ c:=λy hy hk=>I2.ok.has y.1 (ok.frees y hy hk);have cellX:∀x c,(zgX X.env.cells scope.names []).lookup x=Φ c->X.env.cells.lookup x=Φ c:=zf8 scope.names [] (λx c e=>by simp at e);generalize hcl:zgX X.env.cells scope.names []=cl at *;have okX:(zaB X (capN X.N tgs js) scope cl s3.heap.objs.size fp s3 H3 (X.pn++pins)).Ok:=
  {mod:=I3.ok.mod,kind:=ok.kind,glob:=I3.ok.glob,blt:=I3.ok.blt,above:=le_refl _,
   inj:=λx y c e1 e2=>I3.ok.inj x y c (cellX x c e1) (cellX y c e2),
   has:=λx hk=>by
    have hk':(scope.names.map (zb7 X.env)).lookup x=Φ .cell\/(scope.names.map (zb7 X.env)).lookup x=Φ .free:=by rw[<-zbr];exact hk
    rw[<-hcl];refine zdW scope.names [] x frees (.inr ?_);rcases hk' with q|q;let⟨k0,m,_,e⟩:=zbG X.env x _ _ q;rcases e with e|⟨e,_⟩;subst e;exact absurd rfl (ok.nocell _ m);subst e;exact m;let⟨k0,m,_,e⟩:=zbG X.env x _ _ q;rcases e with e|⟨e,z⟩;subst e;exact m;exact absurd z (λh=>(by cases h)),
   cab:=λx c e=>absurd e Ε,hd:=I3.ok.hd,frames:=I3.ok.frames,stk:=.inl rfl,
   exf:=λb hb=>⟨ne_of_lt (by
    let⟨o,ho,_⟩:=T.obj 0 _ st2 b hb;show b<s3.heap.objs.size;rw[sz3,<-hp];exact ϥ (Ν ho)),λx c e=>(f2 b hb).2.2.2.2.1 x c (cellX x c e)⟩,
   bs:=I3.bs,bsz:=le_trans I3.ok.bsz I3.sz,
   noex:=λb o e hb=>by rcases(f2 b hb).2.2.2.1 with z|z;exact I3.ok.noex b o e z;exact absurd (lt_of_lt_of_le (Ν e) (le_trans I3.ok.bsz z)) (lt_irrefl _),
   exfs:=λb hb hx=>by rcases mem_cons.mp (I3.stkSub b hx) with z|z;exact(f2 b hb).2.1 z;exact(f2 b hb).2.2.1 z,
   funs:=I3.stack,frf:=I3.stkFree}
 have I4:Inv (zaB X (capN X.N tgs js) scope cl s3.heap.objs.size fp s3 H3 (X.pn++pins)) [] (csl tgs.length js σ) H3 {s3 with heap:=h₁}:=
  {ok:=okX,os:=rfl,bare:=I3.bare,base:=Un.kept old,
   loc:=⟨_,hns,λi x v e1 e2 e3=>by
    have e1:(tgs++js.map λj=>X.N.getD j "")[i]?=Φ x:=e1;have e2:(List.replicate tgs.length Ψ++js.map λj=>(σ[j]?).join)[i]?=Φ (Φ v):=e2;by_cases hi:i<tgs.length;rw[getElem?_append_left (by rw[length_replicate];exact hi),List.getElem?_replicate,if_pos hi]at e2;cases e2;rw[getElem?_append_right (by lia),getElem?_map]at e1;rw[getElem?_append_right (by rw[length_replicate];lia),length_replicate,getElem?_map]at e2;cases hj:js[i-tgs.length]? with
    |none=>rw[hj]at e1;exact nS e1
    |some j=>
     rw[hj]at e1 e2;have e1:X.N.getD j ""=x:=Option.some.inj e1;have e2:(σ[j]?).join=Φ v:=Option.some.inj e2;have hjm:j∈js:=mem_of_getElem? hj;let⟨hfr,hjl⟩:=ok.caps j hjm;rw[e1]at hfr;have hNj:X.N[j]?=Φ x:=by rw[Η hjl];rw[ϗ,Η hjl]at e1;exact congrArg Φ e1
     have hσ:σ[j]?=Φ (Φ v):=by
      cases q:σ[j]? with
      |none=>rw[q]at e2;exact nS e2
      |some o=>rw[q]at e2;have e2:o=Φ v:=e2;rw[e2]
     have hmem:(x,NameKind.free)∈scope.names:=by let⟨l1,l2,h3,_⟩:=List.lookup_eq_some_iff.mp hfr;rw[h3];simp
     have hkX:=ok.frees _ hmem rfl;have hvis:Vis X.env.scope x:=hkX.elim (λz=>.inr (.inl z)) λz=>.inr (.inr z);let⟨m,hn,hl⟩:=I3.loc;let⟨u,r,lk⟩:=hl j x v hNj hσ hvis;refine⟨u,r,.inr ⟨?_,?_⟩⟩;have q:=zbs X.env x scope.names hfr;rw[<-zbr]at q;exact q.symm;rcases lk with⟨k,_⟩|⟨_,c,ec,z⟩
     . exfalso;have k:X.env.scope.names.lookup x=Φ .local:=k;rcases hkX with q|q<;>(rw[k]at q;cases q)
     obtain⟨c',hc'⟩:∃c',cl.lookup x=Φ c':=by rw[<-hcl];exact zdW scope.names [] x frees (.inr hmem)
     have q:=cellX x c' hc';rw[ec]at q;cases q;let⟨o,ho,hd⟩:=z;exact⟨c,hc',o,old _ _ ho,hd⟩⟩,
   cell:=λx c e=>by let⟨v,o,ho,hd⟩:=I3.cell x c (cellX x c e);exact⟨v,o,old _ _ ho,hd⟩,
   free:=I3.fresh,
   freeC:=λx c e=>I3.freeC x c (cellX x c e),
   pin:=λq hq=>by
    have hq:q∈X.pn++pins:=by simpa using hq
    let⟨e,n,ne,nf,d⟩:=I3.pin q hq;refine⟨old _ _ e,n,ne_of_lt (Ν e),λz=>?_,d⟩;rcases mem_cons.mp (I3.stkSub _ z) with z|z;exact ne z;exact nf z,
   hok:=I3.hok.kept old,
   len:=by show(List.replicate tgs.length Ψ++js.map λj=>(σ[j]?).join).length=(tgs++js.map λj=>X.N.getD j "").length;simp}
 have stat:∀{H':Hp},(∀b∈fp,H' b=Ψ)->∀b∈fp,FpOk (zaB X (capN X.N tgs js) scope cl s3.heap.objs.size fp s3 H3 (X.pn++pins)) [] H' b:=λhn b hb=>
  ⟨hn b hb,(okX.exf b hb).1,okX.exfs b hb,.inl hb,(okX.exf b hb).2,λq hq=>by
   have hq:q∈X.pn++pins:=by simpa using hq
   exact(f2 b hb).2.2.2.2.2 q hq⟩
 have fr3:∀b∈fp,H3 b=Ψ:=λb hb=>by let⟨o,ho,_⟩:=T.obj 0 _ st2 b hb;rw[<-hH3,zai (ne_of_lt (hp▸Ν ho))];exact(f2 b hb).1
 have st4:tn 0 h₁:=T.keep 0 _ _ st2 λb hb o e=>old b o (by rw[e3];exact Α _ e);have loop:codeAny (model X.prog X.w) X.A (.compLoop (.ListComp elt [⟨tg,iter,ifs,0⟩] scope pos) 0 (.ref it) (.ref p) (compEnvC scope cl s3.heap.objs.size X.env)) (RR (.ref p) s3.heap.objs.size) {s3 with heap:=h₁}:=by
  refine ziz (λn s'=>∃i σ' H',Inv (zaB X (capN X.N tgs js) scope cl s3.heap.objs.size fp s3 H3 (X.pn++pins)) [] σ' H' s'/\tn i s'.heap/\(∀b∈fp,H' b=Ψ)/\W i n σ' H') ?_ m0 ⟨0,_,H3,I4,st4,fr3,w0⟩;rintro n s4 ⟨i,σ4,H4,J4,st4,fr4,w4⟩;rcases turn i n σ4 H4 w4 with⟨stop,qn⟩|⟨go,N,hN,step⟩;refine thn (T.done (zaB X (capN X.N tgs js) scope cl s3.heap.objs.size fp s3 H3 (X.pn++pins)) rfl rfl rfl hc i [] s4 σ4 H4 _ J4 (stat fr4) st4 stop) λr s5 ⟨hr,J5⟩=>.inl ⟨hr,?_⟩;have hX:Inv X pins σ H4 s5:=I3.call' J5.os J5.base J5.hok J5.bare λb hb=>⟨(f2 b hb).2.2.2.1,(f2 b hb).2.1,(f2 b hb).2.2.2.2.1,(f2 b hb).2.2.2.2.2⟩;let⟨m,hm,_⟩:=J5.loc;exact fin p _ H4 s5 hX ⟨m,hm⟩ (by rw[sz3];exact Ϫ _) J5.free qn
  refine thn (T.item (zaB X (capN X.N tgs js) scope cl s3.heap.objs.size fp s3 H3 (X.pn++pins)) rfl rfl rfl hc i [] s4 σ4 H4 _ J4 (stat fr4) st4 go) λr s5 ⟨u,hr,h5⟩=>.inr ⟨u,hr,?_⟩;refine thn h5 λ_ s6 q'=>?_;let⟨x,H6,J6,r6,y6,st6,fr6⟩:=q';have J6':=J6.pinned (stat fr6) (T.obj _ _ st6);refine thn (hg _ _ _ _ _ _ _ s6 σ4 H6 x u _ J6' r6 (step x H6 y6)) λ_ s7 q'=>?_;let⟨σ7,H7,J7,q7⟩:=q';refine thn (ht _ _ _ _ _ _ _ s7 σ7 H7 _ J7 q7) λok8 s8 q'=>?_;let⟨H8,J8,q8⟩:=q';have again:∀{s9:Ι}{H9:Hp},Inv (zaB X (capN X.N tgs js) scope cl s3.heap.objs.size fp s3 H3 (X.pn++pins)) ([]++zfG fp s6.heap) σ7 H9 s9->N σ7 H9->
    ∃m,m<n/\∃i σ' H',Inv (zaB X (capN X.N tgs js) scope cl s3.heap.objs.size fp s3 H3 (X.pn++pins)) [] σ' H' s9/\tn i s9.heap/\(∀b∈fp,H' b=Ψ)/\W i m σ' H':=λ{s9 H9} J9 n9=>by
   let⟨m',hm,w9⟩:=hN σ7 H9 n9;refine⟨m',hm,i+1,σ7,H9,J9.unpinned,T.keep _ _ _ st6 λb hb o e=>(J9.pin (b,o) (mem_append_right _ (mem_append_right _ (zb2 hb e)))).1,λb hb=>?_,w9⟩;let⟨o,e,d⟩:=T.obj _ _ st6 b hb;exact(J9.pin (b,o) (mem_append_right _ (mem_append_right _ (zb2 hb e)))).2.1
  cases ok8 with|false=>exact again J8 q8| true=>refine thn (he _ _ _ _ _ _ _ s8 σ7 H8 _ J8 q8) λy s9 q'=>?_;let⟨v,H9,J9,r9,acc,ha,hl,q9⟩:=q';refine thn (zfK _ s9 σ7 H9 (.ref p) [v] (.ref p) [y] (λ_ H=>N σ7 H) J9 rfl (.cons r9 .nil) ⟨p,acc,v,rfl,rfl,ha,hl,q9⟩) λ_ s10 q'=>?_;let⟨_,H10,J10,_,q10⟩:=q';exact again J10 q10
 exact codeAny_compStart_list loop (T.self _ 0 _ _ _ st4 loop)
def zlt(sc)(tgs)(js)(hc:X.calm=Δ)(hsc:X.env.scope=sc)(ok:CompOk sc scope X.N js)(hi:PI X tg iter wi)(hg:∀cl C fp s H pn,PG (zaB X (capN X.N tgs js) scope cl C fp s H pn) tg g)(ht:∀cl C fp s H pn,PTs (zaB X (capN X.N tgs js) scope cl C fp s H pn) ifs tt)(he:∀cl C fp s H pn,PE (zaB X (capN X.N tgs js) scope cl C fp s H pn) elt te)(hs:∀x,foldedSetIterable iter X.env x=pure x:=by intro _;rfl):
  PE X (.ListComp elt [⟨tg,iter,ifs,0⟩] scope pos) (zm0 tgs.length js wi g tt te):=by
 intro pins s σ H Q I h;rw[eval_ListComp];have frees:∀y∈scope.names,y.2=.free->∃c,X.env.cells.lookup y.1=Φ c:=λy hy hk=>I.ok.has y.1 (by
  have q:=ok.frees y hy hk;rw[<-hsc]at q;exact q)
 refine wpAny_comprehension_free (use:=Ψ) rfl hs (zbz frees) ok.kind ok.locs (thn (hi pins s σ H _ I h) λv s1 h1=>thn h1 λitv s2 h2=>?_);let⟨it,fp,tn,J,H2,e,I2,T,st2,f2,rd⟩:=h2;subst e;refine zel hc hsc ok hg ht he I2 T st2 f2 rd (Q:=Q) λp C H' s' I' hm hC hn q=>?_;let⟨m,hm⟩:=hm;refine⟨m,hm,λh' hs'=>⟨.ref p,H',?_,rfl,q⟩⟩;exact I'.turned (t':=s'.toks) (it:=C) (λb o hb e=>(hs'.2 b hb).trans e) hn (ne_of_gt (lt_trans I2.lt hC)) (.inr (le_trans I2.sz (le_of_lt hC))) (λx c e=>by let⟨v,o,ho,_⟩:=I2.cell x c e;exact ne_of_lt (lt_trans (Ν ho) hC)) λq hq=>ne_of_lt (lt_trans (Ν (I2.pin q hq).1) hC)
def znG(sc)(tgs)(js)(hN:X.N.Nodup)(hi':X.N[i]?=Φ y)(hy:Loc X.env.scope y)(hc:X.calm=Δ)(hsc:X.env.scope=sc)(ok:CompOk sc scope X.N js)(hi:PI X tg iter wi)(hg:∀cl C fp s H pn,PG (zaB X (capN X.N tgs js) scope cl C fp s H pn) tg g)(ht:∀cl C fp s H pn,PTs (zaB X (capN X.N tgs js) scope cl C fp s H pn) ifs tt)(he:∀cl C fp s H pn,PE (zaB X (capN X.N tgs js) scope cl C fp s H pn) elt te)(hsw:swapsWith (.ListComp elt [⟨tg,iter,ifs,0⟩] scope pos) (Φ (.Name y py)) spos.line X.env=pure Δ:=by rfl)(hs:∀x,foldedSetIterable iter X.env x=pure x:=by intro _;rfl)(hf:X.fn y=Δ\/X.env.scope.names.lookup y=Φ .local:=by first|exact .inl rfl|exact .inr rfl|assumption):
  PS X (.Assign [.Name y py] (.ListComp elt [⟨tg,iter,ifs,0⟩] scope pos) spos) (tAsg (zm0 tgs.length js wi g tt te) (zkp i)):=by
 intro pins s σ H D I h;have frees:∀y∈scope.names,y.2=.free->∃c,X.env.cells.lookup y.1=Φ c:=λy hy hk=>I.ok.has y.1 (by
  have q:=ok.frees y hy hk;rw[<-hsc]at q;exact q)
 rw[exec_Assign_Name_used _ _ _ _ hsw];refine Ξ (wpAny_standAt (Ξ ?_));show wpAny _ X.A (do let _ <-comprehension (.ListComp elt [⟨tg,iter,ifs,0⟩] scope pos) scope X.env _ (newList []) Θ (eval iter X.env) (Φ (assign (.Name y py) X.env))) _ _ s;refine Ξ (Ϥ (wpAny_comprehension_free (use:=Φ (assign (.Name y py) X.env)) (Q:=λ_ s'=>SP X pins D .next s') rfl hs (zbz frees) ok.kind ok.locs
  (thn (hi pins s σ H _ I h) λv s1 h1=>thn h1 λitv s2 h2=>?_)) (λ_ s' hq=>Λ (Λ hq)) λ_ _ e=>e)
 let⟨it,fp,tn,J,H2,e,I2,T,st2,f2,rd⟩:=h2;subst e;refine zel hc hsc ok hg ht he I2 T st2 f2 rd (Q:=λx H1=>zkp i x σ H1 D.nx) λp C H' s' I' hm hC hn q=>?_;let⟨m,hm⟩:=hm;have hL:C≠X.env.locals:=ne_of_gt (lt_trans I2.lt hC);have hCc:∀x c,X.env.cells.lookup x=Φ c->c≠C:=λx c e=>by let⟨v,o,ho,_⟩:=I2.cell x c e;exact ne_of_lt (lt_trans (Ν ho) hC)
 show wpAny _ X.A (assign (.Name y py) X.env (.ref p)) _ _ _;refine wpAny_assign_Name (zfq I' hN hi' hy (v:=.ref p) rfl (λs'' I'' hch=>?_) hf);let⟨a,hsb,ha⟩:=hch;have hCa:C≠a:=by rcases ha with z|z;rw[z];exact hL;exact λe=>hCc y a z e.symm
 refine⟨m,hm.sameBut hsb hCa,λh' hs'=>⟨σ.set i (Φ (.ref p)),H',?_,q⟩⟩;exact I''.turned (t':=s''.toks) (it:=C) (λb o hb e=>(hs'.2 b hb).trans e) hn hL (.inr (le_trans I2.sz (le_of_lt hC))) hCc λq hq=>ne_of_lt (lt_trans (Ν (I2.pin q hq).1) hC)
end
structure FunV(K:Frag)(x qual:Str)(st:Stmt)(dV:Ω)(f:Addr)(fd:FuncData):Prop where
 ex:∃(oc:Ω) (od:Option Addr) (kV doc pm:Ω) (an:Option Addr) (cdv ct:Ω) (osl:Array (Option Ω)),
  fd=fnOf x qual (zaG st) (zas st) (zad st) dV kV doc pm an cdv ct/\K.lookup f=Φ ⟨oc,od,.func fd,osl⟩/\codeIn K cdv qual=Δ
 kp:keepIn K (.ref f)=Δ
def zfa{K}{st}{dV kV doc pm cdv ct}(l:K.lookup f=Φ ⟨oc,od,.func (fnOf x qual (zaG st) (zas st) (zad st) dV kV doc pm an cdv ct),osl⟩)(c:codeIn K cdv qual=Δ)(k:keepIn K (.ref f)=Δ):FunV K x qual st dV f (fnOf x qual (zaG st) (zas st) (zad st) dV kV doc pm an cdv ct):=⟨⟨oc,od,kV,doc,pm,an,cdv,ct,osl,rfl,l,c⟩,k⟩
section
variable{P:Χ}{w:ϒ}{K:Frag}{mg:Str->Option Ω}{base:Heap}
def FunV.ok{st}(F:FunV K x qual st dV f fd)(S:FnScope N ps (zad st))(len:∀vs H Q E,sp vs H Q E->vs.length=ps.length)(hbody:∀(cdv:Ω)(A:ϔ)(outer:List Env)(s:Ι)(H:Hp)(vs:List V)(Q:VK)(E:XK),Room k (A.deeper (envOfC qual (zad st) s.heap.objs.size f cdv))->sp vs H Q E->
   ∃t,PSs (cxOf CX0 P w K mg base N qual (zad st) f cdv A outer s H E).nox (zas st) t/\t {nx:=λ_ H'=>Q .non H',rt:=Q} (start N vs) H):FnOk P w K mg base CX0 (k+1) f fd ps sp:=by
 let⟨oc,od,kV,doc,pm,an,cdv,ct,osl,rfl,lk,hcd⟩:=F.ex;refine zsf lk hcd S len λA outer s H vs Q E hr hsp=>?_;let⟨t,h,q⟩:=hbody cdv A outer s H vs Q E hr hsp;exact⟨t,h.nox,q⟩
def FunV.binds{st}(F:FunV K x c st g f fd)(h:∀(kV a d:Ω)(e:Option Addr)(b ct:Ω)(us:List Ω),us.length=ps.length->bindArgs (fnOf x c (zaG st) (zas st) (zad st) g kV a d e b ct) ⟨us,[]⟩=pure (ps.zip us)):Binds K fd ps []:=by
 let⟨k,l,kV,a,d,e,b,ct,i,rfl,lk,j⟩:=F.ex;exact .all (h kV a d e b ct)
structure Has(P:Χ)(w:ϒ)(K:Frag)(mg:Str->Option Ω)(base:Heap)(k:Nat)(x:Str)(ps:List Str)(dvs:List V)(sp:Sp):Prop where
 ex:∃(f:Addr) (fd:FuncData) (ds:List Ω),FnOk P w K mg base CX0 k f fd ps sp/\mg x=Φ (.ref f)/\keepIn K (.ref f)=Δ/\Binds K fd ps ds/\Vals dvs ds
end
def zrO(G:Has X.prog X.w X.K X.mg X.base k x ps dvs sp)(hr:Room k X.A)(ha:PA X (e::es) t)(hg:Gl X x:=by rfl)(hdb:(x==("__debug__":Str))=Θ:=by decide)(he:starEach (e::es) X.env=(Θ,eval e X.env)::starEach es X.env:=by rfl)(hpl:(backTo pos (starEach es X.env)).any (·.1)=Θ:=by rfl):
  PE X (.Call (.Name x p) (e::es) [] pos) (ziX sp dvs E0 t):=by
 let⟨f,fd,ds,F,hm,hk,hb,hd⟩:=G.ex;exact znO F hr hg hm hk hb hd zid ha hdb he hpl
def zp8(G:Has X.prog X.w X.K X.mg X.base k x ps dvs sp)(hr:Room k X.A)(hg:Gl X x:=by rfl)(hdb:(x==("__debug__":Str))=Θ:=by decide):PE X (.Call (.Name x p) [] [] pos) (ziX sp dvs E0 tNil):=by
 let⟨f,fd,ds,F,hm,hk,hb,hd⟩:=G.ex;exact zlx F hr hg hm hk hb hd zid hdb
mutual
noncomputable def Rep(H:Hp):PyData->V->Prop
 |.none,v=>v=.non|.bool b,v=>v=.bl b|.int i,v=>v=.int i|.str x,v=>v=.str x|.list ds,v=>∃a vs,v=.ref a/\H a=Φ (.lst vs)/\RepAll H ds vs|.tuple ds,v=>∃a vs,v=.ref a/\H a=Φ (.tup vs)/\RepAll H ds vs|.dict _,_=>False
noncomputable def RepAll(H:Hp):List PyData->List V->Prop
 | [],vs=>vs=[]|d::ds,vs=>∃v r,vs=v::r/\Rep H d v/\RepAll H ds r
end
mutual
noncomputable def imm:PyData->Bool
 |.none=>Δ|.bool _=>Δ|.int _=>Δ|.str _=>Δ|.list _=>Θ|.tuple ds=>zfY ds|.dict _=>Θ
noncomputable def zfY:List PyData->Bool
 | []=>Δ|d::ds=>imm d&&zfY ds
end
abbrev Tups(H H':Hp):Prop:=∀b xs,H b=Φ (.tup xs)->H' b=Φ (.tup xs)
def Tups.refl(H):Tups H H:=λ_ _ h=>h
def Tups.trans(a:Tups H e)(b:Tups e f):Tups H f:=λc d h=>b c d (a c d h)
def Tups.upd{H:Hp}{p:Addr}{o:HO}(h:∀xs,H p≠Φ (.tup xs)):Tups H (upd H p o):=λb xs e=>by
 have hb:b≠p:=λz=>by subst z;exact h xs e
 rw[zai hb];exact e
def Tups.upd_lst(h:H p=Φ (.lst xs)):Tups H (L2.upd H p o):=Tups.upd λa e=>by rw[h]at e;cases e
def Tups.upd_new(h:H p=Ψ):Tups H (L2.upd H p o):=Tups.upd λa e=>by rw[h]at e;exact nS e
mutual
theorem Rep.same{H H':Hp}(hs:Same H H'):∀{d:PyData}{v:V},Rep H d v->Rep H' d v
 |.none,_,h=>h|.bool _,_,h=>h|.int _,_,h=>h|.str _,_,h=>h| .list ds,v,h=>by let⟨a,vs,e,ha,r⟩:=h;exact⟨a,vs,e,hs _ _ ha,RepAll.same hs r⟩| .tuple ds,v,h=>by let⟨a,vs,e,ha,r⟩:=h;exact⟨a,vs,e,hs _ _ ha,RepAll.same hs r⟩|.dict _,_,h=>h
theorem RepAll.same{H H':Hp}(hs:Same H H'):∀{ds:List PyData}{vs:List V},RepAll H ds vs->RepAll H' ds vs
 | [],_,h=>h| d::ds,vs,h=>by let⟨v,r,e,h1,h2⟩:=h;exact⟨v,r,e,Rep.same hs h1,RepAll.same hs h2⟩
end
mutual
theorem Rep.tups{H H':Hp}(hs:Tups H H'):∀{d:PyData}{v:V},imm d=Δ->Rep H d v->Rep H' d v
 |.none,_,_,h=>h|.bool _,_,_,h=>h|.int _,_,_,h=>h|.str _,_,_,h=>h|.list ds,v,i,h=>by simp[imm]at i| .tuple ds,v,i,h=>by let⟨a,vs,e,ha,r⟩:=h;exact⟨a,vs,e,hs _ _ ha,RepAll.tups hs (by simpa[imm]using i) r⟩|.dict _,_,_,h=>h
theorem RepAll.tups{H H':Hp}(hs:Tups H H'):∀{ds:List PyData}{vs:List V},zfY ds=Δ->RepAll H ds vs->RepAll H' ds vs
 | [],_,_,h=>h| d::ds,vs,i,h=>by
  let⟨v,r,e,h1,h2⟩:=h;have i':imm d=Δ/\zfY ds=Δ:=by simpa[zfY]using i
  exact⟨v,r,e,Rep.tups hs i'.1 h1,RepAll.tups hs i'.2 h2⟩
end
mutual
theorem Rep.reads{X:Cx}{pins:List (Addr×Obj)}{σ:St}{H:Hp}{s:Ι}(I:Inv X pins σ H s):∀(d:PyData)(v:V)(u:Ω),Rep H d v->RelV v u->∃as,Reads s.heap u d as
 |.none,v,u,h,r=>by cases(show v=.non from h);cases(show u=Ω.none from r);exact⟨_,.none⟩| .bool b,v,u,h,r=>by cases(show v=.bl b from h);cases(show u=Ω.bool b from r);exact⟨_,.bool b⟩| .int i,v,u,h,r=>by cases(show v=.int i from h);let⟨t,rfl⟩:=(show ∃t,u=Ω.int i t from r);exact⟨_,.int i t⟩| .str x,v,u,h,r=>by cases(show v=.str x from h);let⟨t,rfl⟩:=(show ∃t,u=Ω.str x t from r);exact⟨_,.str x t⟩| .list ds,v,u,h,r=>by let⟨a,vs,rfl,ha,hr⟩:=h;cases(show u=Ω.ref a from r);let⟨its,n,rv,e,_⟩:=I.lst ha;let⟨as,q⟩:=RepAll.reads I ds vs its hr rv;exact⟨_,.list e rfl rfl q⟩| .tuple ds,v,u,h,r=>by let⟨a,vs,rfl,ha,hr⟩:=h;cases(show u=Ω.ref a from r);let⟨its,rv,⟨o,e1,e2,n,e3⟩,_⟩:=I.tuple (SqT.of (K:=X.K) ha);let⟨as,q⟩:=RepAll.reads I ds vs its hr rv;exact⟨_,.tuple e1 e2 e3 q⟩|.dict _,_,_,h,_=>False.elim h
theorem RepAll.reads{X:Cx}{pins:List (Addr×Obj)}{σ:St}{H:Hp}{s:Ι}(I:Inv X pins σ H s):∀(ds:List PyData)(vs:List V)(us:List Ω),RepAll H ds vs->Vals vs us->∃as,ReadsAll s.heap us ds as
 | [],vs,us,h,r=>by cases(show vs=[] from h);cases r;exact⟨_,.nil⟩| d::ds,vs,us,h,r=>by let⟨v,vr,rfl,h1,h2⟩:=h;cases r with| cons r1 r2=>let⟨as,q1⟩:=Rep.reads I d v _ h1 r1;let⟨bs,q2⟩:=RepAll.reads I ds vr _ h2 r2;exact⟨_,.cons q1 q2⟩
end
def eqv_int(i j):PyData.eqv (.int i) (.int j)=(i==j):=by simp[PyData.eqv]
section
variable{X:Cx}
abbrev rEqD(g:Bool->Bool):R2:=λx y H Q=>∃da db,Rep H da x/\Rep H db y/\da.canLay0=Δ/\db.canLay0=Δ/\min da.depth db.depth<=60/\Q (.bl (g (PyData.eqv da db))) H
def zql(hu:X.A.units+64<cLine):OpR X (compareOp .Eq) (rEqD id):=by intro pins s σ H x y v u Q I rx ry h;let⟨da,db,h1,h2,l1,l2,hd,q⟩:=h;let⟨as,r1⟩:=Rep.reads I da x v h1 rx;let⟨bs,r2⟩:=Rep.reads I db y u h2 ry;exact SeqAt.compareEq_reads r1 r2 l1 l2 (by lia) (zam I q rfl)
def zqg(hu:X.A.units+64<cLine):OpR X (compareOp .NotEq) (rEqD not):=by intro pins s σ H x y v u Q I rx ry h;let⟨da,db,h1,h2,l1,l2,hd,q⟩:=h;let⟨as,r1⟩:=Rep.reads I da x v h1 rx;let⟨bs,r2⟩:=Rep.reads I db y u h2 ry;exact SeqAt.compareNe_reads r1 r2 l1 l2 (by lia) (zam I q rfl)
def zqk:OpR X (compareOp .Is) (λx y H Q=>∃a b,x=.bl a/\y=.bl b/\Q (.bl (a==b)) H):=by intro pins s σ H x y v u Q I rx ry h;let⟨a,b,rfl,rfl,q⟩:=h;cases rx;cases ry;refine wpAny_is_plain (by cases a<;>cases b<;>rfl) (zam I q ?_);cases a<;>cases b<;>rfl
abbrev zcX(H:Hp):V->Option String
 |.non=>Φ "NoneType"|.bl _=>Φ "bool"|.int _=>Φ "int"|.str _=>Φ "str"
 |.ref a=>match H a with
  |some (.lst _)=>Φ "list"|some (.frz _ (.lst _))=>Φ "list"|some (.tup _)=>Φ "tuple"|some (.dK _)=>Φ "dict"|some (.dT _)=>Φ "dict"|_=>Ψ
 |_=>Ψ
def ziQ{K}(h:zcX H x=Φ a):TyOf K H x (.type a):=by
 cases x with
 |non=>cases h;exact .non|bl b=>cases h;exact .bl b|int i=>cases h;exact .int i|str y=>cases h;exact .str y|byt _=>exact nS h
 |flt _=>exact nS h
 |ty _=>exact nS h
 |ref p=>
  unfold zcX at h;cases e:H p with
  |none=>simp[e]at h| some o=>
   cases o with
   |lst xs=>simp[e]at h;subst h;exact .lst e|tup xs=>simp[e]at h;subst h;exact .tup e|dK kvs=>simp[e]at h;subst h;exact .dK e|dT kvs=>simp[e]at h;subst h;exact .dT e| frz ob q=>cases q with|lst xs=>simp[e]at h;subst h;exact .frz e|_=>simp[e]at h
   |_=>simp[e]at h
abbrev subT(a b:String):Bool:=a==b||(a=="bool"&&b=="int")
def zob(K)(ha:a∈["NoneType","bool","int","str","list","tuple","dict"])(hb:b∈["bool","int","str","list","tuple","dict"]):kitOne K (.type a) (.type b)=Φ (subT a b):=by simp![mem_cons,not_mem_nil,or_false]at ha hb;rcases ha with rfl|rfl|rfl|rfl|rfl|rfl|rfl<;>rcases hb with rfl|rfl|rfl|rfl|rfl|rfl<;>rfl
def zhQ(h:zcX H x=Φ a):a∈["NoneType","bool","int","str","list","tuple","dict"]:=by
 cases x with
 |non=>cases h;simp|bl b=>cases h;simp|int i=>cases h;simp|str y=>cases h;simp|byt _=>exact nS h
 |flt _=>exact nS h
 |ty _=>exact nS h
 |ref p=>unfold zcX at h;simp only at h;split at h<;>first|(cases h;simp)|exact nS h
def zgY:za0 X (.builtin "isinstance") (λxs H Q=>∃x c a,xs=[x,.ty c]/\zcX H x=Φ a/\c∈["bool","int","str","list","tuple","dict"]/\Q (.bl (subT a c)) H):=by intro pins s σ H xs us Q I r h;let⟨x,c,a,rfl,hx,hc,q⟩:=h;let⟨u,w',rfl,rx,rc⟩:=zmU r;cases(show w'=Ω.type c from rc);exact zj7 I rx (ziQ hx) (zob X.K (zhQ hx) hc) λtk=>⟨.bl (subT a c),H,I.tok tk,rfl,q⟩
end
section
variable{X:Cx}(K:Frag)(hK:X.K=K)
include hK
end
def zmK:bootBuiltins "len"=Φ (.builtin "len"):=by decide +kernel
def zrd:bootBuiltins "abs"=Φ (.builtin "abs"):=by decide +kernel
def zra:bootBuiltins "max"=Φ (.builtin "max"):=by decide +kernel
def zrc:bootBuiltins "all"=Φ (.builtin "all"):=by decide +kernel
def zfg:bootBuiltins "isinstance"=Φ (.builtin "isinstance"):=by decide +kernel
def zrb:bootBuiltins "int"=Φ (.type "int"):=by decide +kernel
def zoF:bootBuiltins "bool"=Φ (.type "bool"):=by decide +kernel
def zq8:bootBuiltins "str"=Φ (.type "str"):=by decide +kernel
def zg0:bootBuiltins "list"=Φ (.type "list"):=by decide +kernel
def zff:bootBuiltins "tuple"=Φ (.type "tuple"):=by decide +kernel
def zoE:bootBuiltins "dict"=Φ (.type "dict"):=by decide +kernel
def zkI:bootBuiltins "set"=Φ (.type "set"):=by decide +kernel
def zq6{K}{st}(n)(hn:ps.length=n+ds.length)(F:FunV K x qual st (.ref d) f fd)(e:K.lookup d=Φ ⟨xc,xd,.seq items xn,xs⟩)(h:∀(kV doc pm:Ω)(an:Option Addr)(cdv ct:Ω)(us:List Ω),us.length=n->∃k,bindArgs (fnOf x qual (zaG st) (zas st) (zad st) (.ref d) kV doc pm an cdv ct) ⟨us,[]⟩=seqItems? (.ref d)>>=k/\k (Φ items)=pure (ps.zip (us++ds))):
  Binds K fd ps ds:=by
 let⟨oc,od,kV,doc,pm,an,cdv,ct,osl,rfl,lk,hcd⟩:=F.ex;intro s us KX hl;let⟨k,h1,h2⟩:=h kV doc pm an cdv ct us (by rw[length_append]at hl;lia);exact BindsTo.of_defaults (T:=d) rfl (KX _ _ e) rfl h1 h2
end L2
namespace R
@[reducible]def K3:=Int×List Int×Int
abbrev lexZ:List Int->List Int->Bool
 | [],[]=>Θ| [],_::_=>Δ|_::_,[]=>Θ|x::xs,y::ys=>if x=y then lexZ xs ys else decide (x<y)
def zcC(x y)(xs ys):lexZ (x::xs) (y::ys)=if x=y then lexZ xs ys else decide (x<y):=rfl
def zb4:∀l:List Int,lexZ l l=Θ
 | []=>rfl|x::l=>by rw[zcC,if_pos rfl];exact zb4 l
def zfP:∀{a b c:List Int},lexZ a b=Δ->lexZ b c=Δ->lexZ a c=Δ
 | [],[],c,h,k=>by exact nB h| [],y::b,[],h,k=>by exact nB k| [],y::b,z::c,h,k=>rfl|x::a,[],c,h,k=>by exact nB h|x::a,y::b,[],h,k=>by exact nB k| x::a,y::b,z::c,h,k=>by rw[zcC]at h k⊢;split at h;rename_i e1;split at k;rename_i e2;rw[if_pos (e1.trans e2)];exact zfP h k;rename_i e2;have k:=of_decide_eq_true k;rw[if_neg (by lia)];exact decide_eq_true (by lia);rename_i e1;have h:=of_decide_eq_true h;split at k;rename_i e2;rw[if_neg (by lia)];exact decide_eq_true (by lia);rename_i e2;have k:=of_decide_eq_true k;rw[if_neg (by lia)];exact decide_eq_true (by lia)
def zfQ:∀{a b:List Int},a≠b->lexZ a b=Δ\/lexZ b a=Δ
 | [],[],h=>absurd rfl h| [],y::b,_=>.inl rfl|x::a,[],_=>.inr rfl| x::a,y::b,h=>by rw[zcC,zcC];by_cases e:x=y;subst e;rw[if_pos rfl,if_pos rfl];exact zfQ λz=>h (by rw[z]);rw[if_neg e,if_neg (Ne.symm e)];rcases Int.lt_or_gt_of_ne e with z|z;exact .inl (decide_eq_true z);exact .inr (decide_eq_true z)
def zf2{α:Type}{p q}:∀{l:List α},(∀x∈l,p x=Δ->q x=Δ)->(l.filter p).length<=(l.filter q).length
 | [],_=>le_refl _| x::l,h=>by have ih:=zf2 (l:=l) λy hy=>h y (Ρ _ hy);rw[List.filter_cons,List.filter_cons];cases e:p x with|true=>rw[h x Υ e];simp;exact ih| false=>cases q x with|true=>simp;lia|false=>simpa using ih
def zf1{α:Type}{p q}:∀{l:List α}{a:α},(∀x∈l,p x=Δ->q x=Δ)->a∈l->p a=Θ->q a=Δ->(l.filter p).length<(l.filter q).length
 | [],_,_,h,_,_=>by cases h| x::l,a,h,ha,hp,hq=>by rw[List.filter_cons,List.filter_cons];rcases mem_cons.mp ha with e|e;subst e;have:=zf2 (l:=l) λy hy=>h y (Ρ _ hy);rw[hp,hq];simp;lia;have ih:=zf1 (l:=l) (λy hy=>h y (Ρ _ hy)) e hp hq;cases e':p x with|true=>rw[h x Υ e'];simp;exact ih| false=>cases q x with|true=>simp;lia|false=>simpa using ih
end R
namespace R
open PySem PySem.Spec PyProof.Rows L2
section
variable{prog:Χ}{w:ϒ}{A:ϔ}{E:Ω->Ι->Prop}{s:Ι}
abbrev IsTri(prog:Χ)(w:ϒ)(h:Heap)(k:K3)(a:Addr):Prop:=∃o t u b n,h.get? a=Φ o/\o.cls=.type "tuple"/\o.data=.seq #[.int k.1 t,.ref b,.int k.2.2 u] n/\IsTupleKey (zaf prog w) h (k.2.1.map Sum.inl) b
def zdM{x y:List Int}(h:(x.map Sum.inl:List Key)=y.map Sum.inl):x=y:=(List.map_inj_right (λa b e=>Sum.inl.inj e)).mp h
def IsTri.typeIs(x:IsTri prog w s.heap k a):s.TypeIs (.ref a) "tuple":=by let⟨o,_,_,_,_,b,c,_⟩:=x;exact⟨o,b,c⟩
def IsTri.inj(hx:IsTri prog w h x a)(hy:IsTri prog w h y a):x=y:=by let⟨o,t,u,b,n,ho,_,hd,hi⟩:=hx;let⟨o',t',u',b',n',ho',_,hd',hi'⟩:=hy;obtain rfl:o=o':=Option.some.inj (ho.symm.trans ho');rw[hd]at hd';injection hd' with h1 _;have h1:=congrArg Array.toList h1;simp![List.cons.injEq,Ω.int.injEq,Ω.ref.injEq,and_true]at h1;let⟨⟨e1,_⟩,rfl,e3,_⟩:=h1;have e2:=zdM (hi.inj hi');let⟨x1,x2,x3⟩:=x;let⟨y1,y2,y3⟩:=y;simp_all
def IsTri.keeps(x:IsTri prog w h k a)(ho:h.get? d=Φ o)(hd:o.data=.dict es ep)(hs:Heap.SameBut d h h'):IsTri prog w h' k a:=by
 let⟨o',t,u,b,n,ho',hc,hd',hi⟩:=x;have hne:a≠d:=by rintro rfl;obtain rfl:o'=o:=Option.some.inj (ho'.symm.trans ho);rw[hd]at hd';exact by cases hd'
 exact⟨o',t,u,b,n,(hs.2 a hne).trans ho',hc,hd',hi.keeps ho hd hs⟩
abbrev zdj(prog:Χ)(w:ϒ)(k:K3):Int:=reduceHash (Builtin.Tuple.tupleHashOf [hashInt k.1,tupleKeyHash (zaf prog w) (k.2.1.map Sum.inl),hashInt k.2.2])
def zc4(hu:A.units+4<cLine)(hk:IsTri prog w s.heap k a)(h:Q (zdj prog w k) {s with toks:=s.toks+(k.2.1.length+4)}):
  wpAny (model prog w) A (pyHash (.ref a)) Q E s:=by
 have hT:=hk.typeIs;let⟨o,t,u,b,n,ho,_,hd,hi⟩:=hk;unfold pyHash
 first|unfold pyHashByItsType|skip
 first|refine Ξ (wpAny_cRoomFor_or (.inr (by lia)) ?_)|skip
 refine Ξ (Ϩ hT F.slot_tuple_hash.lookup ?_);show wpAny _ _ (if(Φ (Ω.builtin "tuple.__hash__")==Φ Ω.none)=Δ then _ else _) Q E s;rw[if_neg (by rw[beq_builtin_none];exact Ε)];refine Ξ (Ϩ hT F.slot_tuple_hash.lookup ?_);show wpAny _ _ (callSpecialIfBoundUnlessNone? (.ref a) "__hash__" _>>=_) Q E s;refine Ξ (wpAny_callSpecialIfBoundUnlessNone?_slot hT F.slot_tuple_hash (ύ F.slot_tuple_hash hT F.entry_tuple_hash ?_ (F.args_tuple_hash_1 _)));show wpAny _ _ (Builtin.Tuple.tupleItemsOf (.ref a)>>=_) _ _ s;refine Ξ (wpAny_tupleItemsOf ho hd ?_);refine Ξ ?_;rw[<-ϣ];refine ϛ _
  (λrest (g:Array Int) s'=>(rest=[.int k.1 t,.ref b,.int k.2.2 u]/\g.toList=[]/\s'=s)\/(rest=[.ref b,.int k.2.2 u]/\g.toList=[hashInt k.1]/\s'={s with toks:=s.toks+1})
   \/(rest=[.int k.2.2 u]/\g.toList=[hashInt k.1,tupleKeyHash (zaf prog w) (k.2.1.map Sum.inl)]/\s'={s with toks:=s.toks+(k.2.1.length+2)})
   \/(rest=[]/\g.toList=[hashInt k.1,tupleKeyHash (zaf prog w) (k.2.1.map Sum.inl),hashInt k.2.2]/\s'={s with toks:=s.toks+(k.2.1.length+3)}))
  _ ?_ ?_ _ _ (.inl ⟨rfl,rfl,rfl⟩)
 rintro x rest g s' (⟨e,hg,rfl⟩|⟨e,hg,rfl⟩|⟨e,hg,rfl⟩|⟨e,hg,rfl⟩);cases e;refine Ξ (wpAny_pyHash_int ?_);exact Λ (.inr (.inl ⟨rfl,by simp[hg],rfl⟩));cases e;refine Ξ (wpAny_pyHash_tuple (knd:=zaf prog w) (ks:=k.2.1.map Sum.inl) ?_ hi ?_);show A.units+1<cLine;lia;exact Λ (.inr (.inr (.inl ⟨rfl,by simp[hg],by simp![length_map];congr 1;lia⟩)));cases e;refine Ξ (wpAny_pyHash_int ?_);exact Λ (.inr (.inr (.inr ⟨rfl,by simp[hg],by simp[ϯ]⟩)));cases e;rintro g s' (⟨e,hg,rfl⟩|⟨e,hg,rfl⟩|⟨e,hg,rfl⟩|⟨e,hg,rfl⟩);cases e;cases e;cases e;show wpAny _ _ (retInt (Builtin.Tuple.tupleHashOf g.toList)) _ _ _;rw[hg];refine wpAny_ret_mkInt ?_;show wpAny _ _ (if(decide (-(2:Int)^63<=Builtin.Tuple.tupleHashOf [hashInt k.1,tupleKeyHash (zaf prog w) (k.2.1.map Sum.inl),hashInt k.2.2])&&decide (Builtin.Tuple.tupleHashOf [hashInt k.1,tupleKeyHash (zaf prog w) (k.2.1.map Sum.inl),hashInt k.2.2]<2^63))=Δ then _ else _) Q E _;unfold zdj reduceHash at h;by_cases hr:(decide (-(2:Int)^63<=Builtin.Tuple.tupleHashOf [hashInt k.1,tupleKeyHash (zaf prog w) (k.2.1.map Sum.inl),hashInt k.2.2])&&decide (Builtin.Tuple.tupleHashOf [hashInt k.1,tupleKeyHash (zaf prog w) (k.2.1.map Sum.inl),hashInt k.2.2]<2^63))=Δ;rw[if_pos hr];rw[if_pos hr]at h;exact Λ (by simpa[ϯ]using h);rw[if_neg hr];rw[if_neg hr]at h;exact Ξ (Ϭ (Λ (by simpa[ϯ]using h)))
def zgp(hu:A.units<cLine)(hx:IsTri prog w s.heap x a)(hy:IsTri prog w s.heap y b)(h:P (.done (.ret (.bool (decide (x=y))))) s):
  wpAny (model prog w) A (Builtin.«tuple.__eq__» ⟨[.ref a,.ref b],[]⟩) P E s:=by
 have hTb:=hy.typeIs;let⟨oa,t1,u1,b1,na,hoa,_,hda,hia⟩:=hx;let⟨ob,t2,u2,b2,nb,hob,_,hdb,hib⟩:=hy;let⟨x1,x2,x3⟩:=x;let⟨y1,y2,y3⟩:=y;show wpAny _ _ (isInstance (.ref b) (.type "tuple")>>=_) _ _ s;refine Ξ (ϭ hTb isSubtype_tuple_tuple ?_);simp![ώ,Κ,if_false];refine Ξ (wpAny_tupleItemsOf hoa hda ?_);refine Ξ (wpAny_tupleItemsOf hob hdb ?_);refine Ξ ?_;refine ϛ _
  (λrest r s'=>r.1=Ψ/\s'=s/\(rest=[(.int x1 t1,.int y1 t2),(.ref b1,.ref b2),(.int x3 u1,.int y3 u2)]\/(rest=[(.ref b1,.ref b2),(.int x3 u1,.int y3 u2)]/\x1=y1)\/(rest=[(.int x3 u1,.int y3 u2)]/\x1=y1/\x2=y2)\/(rest=[]/\x1=y1/\x2=y2/\x3=y3)))
  _ ?_ ?_ _ _ ⟨rfl,rfl,.inl rfl⟩
 rintro⟨p,q⟩ rest r s' ⟨hr,rfl,(e|⟨e,z1⟩|⟨e,z1,z2⟩|⟨e,z1,z2,z3⟩)⟩;cases e;refine Ξ (wpAny_eqBool_int ?_);by_cases hk:x1=y1;rw[show(x1==y1)=Δ by simp[hk]];simp![ώ,Κ,if_false];exact Λ ⟨rfl,rfl,.inr (.inl ⟨trivial,hk⟩)⟩;rw[show(x1==y1)=Θ by simp[hk]];simp![Bool.not_false,if_true];rw[decide_eq_false (by simp[hk])]at h;exact Ξ (Λ (Λ (Λ h)));cases e;refine Ξ (wpAny_eqBool_tuple hu hia hib ?_);by_cases hk:x2=y2;rw[decide_eq_true (by rw[hk])];simp![ώ,Κ,if_false];exact Λ ⟨rfl,rfl,.inr (.inr (.inl ⟨trivial,z1,hk⟩))⟩;rw[decide_eq_false (λz=>hk (zdM z))];simp![Bool.not_false,if_true];rw[decide_eq_false (by simp[hk])]at h;exact Ξ (Λ (Λ (Λ h)));cases e;refine Ξ (wpAny_eqBool_int ?_);by_cases hk:x3=y3;rw[show(x3==y3)=Δ by simp[hk]];simp![ώ,Κ,if_false];exact Λ ⟨rfl,rfl,.inr (.inr (.inr ⟨trivial,z1,z2,hk⟩))⟩;rw[show(x3==y3)=Θ by simp[hk]];simp![Bool.not_false,if_true];rw[decide_eq_false (by simp[hk])]at h;exact Ξ (Λ (Λ (Λ h)));cases e;rintro⟨r1,r2⟩ s' ⟨hr,rfl,(e|⟨e,z1⟩|⟨e,z1,z2⟩|⟨e,z1,z2,z3⟩)⟩;cases e;cases e;cases e;simp only at hr;subst hr;refine Λ ?_;rw[decide_eq_true (by rw[z1,z2,z3])]at h;exact h
def zc5(hu:A.units+4<cLine)(hx:IsTri prog w s.heap x a)(hy:IsTri prog w s.heap y b)(h:Q (decide (x=y)) s):
  wpAny (model prog w) A (eqBool (.ref a) (.ref b)) Q E s:=by
 unfold eqBool
 try with_reducible refine ϙ ?_
 show wpAny _ _ (if(Ω.ref a==Ω.ref b)=Δ then _ else _) Q E s;by_cases hab:(Ω.ref a==Ω.ref b)=Δ;rw[if_pos hab];have e:a=b:=by have:=eq_of_beq hab;injection this
 subst e;obtain rfl:=hx.inj hy;exact Ξ (Ϭ (Λ (by simpa using h)))
 rw[if_neg hab];exact Ξ (wpAny_richCompare_same_room (op:=.Eq) hx.typeIs hy.typeIs F.slot_tuple_eq
  (ύ F.slot_tuple_eq hx.typeIs F.entry_tuple_eq (zgp (by show A.units+1<cLine;lia) hx hy ⟨_,rfl,(λe=>by cases e),ϟ h⟩) (F.args_tuple_eq_2 _ _)) (by lia))
def zmk(hk:IsTupleKey (zaf prog w) s.heap ks a)(h:Q Δ s):wpAny (model prog w) A (eqIsQuiet 7 (.ref a)) Q E s:=by have hT:=hk.typeIs;let⟨o,items,n,ho,_,hd,hi⟩:=hk;unfold eqIsQuiet;refine Ξ (Ϩ hT F.slot_tuple_eq.lookup ?_);show wpAny _ _ (isInstance (.ref a) (.type "tuple")>>=_) _ _ s;refine Ξ (ϭ hT isSubtype_tuple_tuple ?_);simp![ώ,Κ,if_false];refine Ξ (Ϧ ho hd ?_);refine Ξ ?_;show wpAny _ _ (forIn items _ _) _ _ s;rw[<-ϣ];refine ϛ _ (λrest r s'=>r.1=Ψ/\s'=s/\∀v∈rest,carriedByValue v=Δ) _ ?_ ?_ _ _ ⟨rfl,rfl,hi.byValue⟩;rintro v rest r s' ⟨hr,rfl,hall⟩;rw[eqIsQuiet_byValue _ (hall v Υ)];refine Ξ (Λ ?_);simp![ώ,Κ,if_false];exact Λ ⟨rfl,rfl,λu hu'=>hall u (Ρ _ hu')⟩;rintro⟨r1,r2⟩ s' ⟨hr,rfl,_⟩;simp only at hr;subst hr;exact Λ h
def zci(hk:IsTri prog w s.heap k a)(h:Q Δ s):wpAny (model prog w) A (eqIsQuiet 8 (.ref a)) Q E s:=by have hT:=hk.typeIs;let⟨o,t,u,b,n,ho,_,hd,hi⟩:=hk;unfold eqIsQuiet;refine Ξ (Ϩ hT F.slot_tuple_eq.lookup ?_);show wpAny _ _ (isInstance (.ref a) (.type "tuple")>>=_) _ _ s;refine Ξ (ϭ hT isSubtype_tuple_tuple ?_);simp![ώ,Κ,if_false];refine Ξ (Ϧ ho hd ?_);refine Ξ ?_;show wpAny _ _ (forIn #[Ω.int k.1 t,.ref b,.int k.2.2 u] _ _) _ _ s;rw[<-ϣ];refine ϛ _ (λrest r s'=>r.1=Ψ/\s'=s/\∀v∈rest,carriedByValue v=Δ\/v=.ref b) _ ?_ ?_ _ _ ⟨rfl,rfl,λv hv=>by simp![mem_cons,not_mem_nil,or_false]at hv;rcases hv with rfl|rfl|rfl;exact .inl rfl;exact .inr rfl;exact .inl rfl⟩;rintro v rest r s' ⟨hr,rfl,hall⟩;rcases hall v Υ with hv|rfl;rw[eqIsQuiet_byValue _ hv];refine Ξ (Λ ?_);simp![ώ,Κ,if_false];exact Λ ⟨rfl,rfl,λu hu'=>hall u (Ρ _ hu')⟩;refine Ξ (zmk hi ?_);simp![ώ,Κ,if_false];exact Λ ⟨rfl,rfl,λu hu'=>hall u (Ρ _ hu')⟩;rintro⟨r1,r2⟩ s' ⟨hr,rfl,_⟩;simp only at hr;subst hr;exact Λ h
end
abbrev zcj(prog:Χ)(w:ϒ):HeapKind prog w K3 where
 is:=IsTri prog w
 hash:=zdj prog w
 draws:=λk=>k.2.1.length+4
 room:=λA=>A.units+4<cLine
 inj:=λhx hy=>hx.inj hy
 keeps:=λx ho hd hs=>x.keeps ho hd hs
 pyHash:=λhu hk h=>zc4 hu hk h
 eqBool:=λhu hx hy h=>zc5 hu hx hy h
 quiet:=λhk h=>zci hk h
abbrev zlN(k:K3):Int:=reduceHash (Builtin.Tuple.tupleHashOf [hashInt k.1,reduceHash (Builtin.Tuple.tupleHashOf (k.2.1.map hashInt)),hashInt k.2.2])
def zlM(k):(zcj P w).hash k=zlN k:=by show zdj P w k=zlN k;unfold zdj zlN tupleKeyHash;rw[map_map];rfl
abbrev P3(p:K3×Addr×V)(q:K3×Addr×Ω):Prop:=p.1=q.1/\p.2.1=q.2.1/\RelV p.2.2 q.2.2
abbrev ent3(x:K3×Addr×Ω):DictEntry:=⟨zlN x.1,.ref x.2.1,x.2.2⟩
def zkw(x):entryOfKey (zcj P w) x=ent3 x:=by unfold entryOfKey ent3;rw[zlM]
abbrev TriO(a:Addr)(kxs:List (K3×Addr×V))(h:Heap):Prop:=kxs.length<=sizeLine/\(a==sysModules)=Θ/\∃xs,Paired P3 kxs xs/\∃o es ep,h.get? a=Φ o/\o.ExactDict/\o.data=.dict es ep/\es.toList=xs.map ent3/\(xs.map (·.1)).Nodup
abbrev Key3(H:Hp)(k:K3)(c:Addr):Prop:=∃b,H c=Φ (.tup [.int k.1,.ref b,.int k.2.2])/\H b=Φ (.tup (k.2.1.map V.int))
abbrev TriK(H:Hp)(kxs:List (K3×Addr×V)):Prop:=∀x∈kxs,Key3 H x.1 x.2.1
def Key3.up(h:Key3 H k c)(ht:∀b xs,H b=Φ (.tup xs)->H' b=Φ (.tup xs)):Key3 H' k c:=let ⟨b,h1,h2⟩:=h;⟨b,ht _ _ h1,ht _ _ h2⟩
def TriO.stay(x:TriO a kxs h)(k:∀o,h.get? a=Φ o->h'.get? a=Φ o):TriO a kxs h':=by let⟨z,y,xs,r,o,es,ep,e,c⟩:=x;exact⟨z,y,xs,r,o,es,ep,k _ e,c⟩
def TriO.objOk(x:TriO a kxs h):ObjOk P w H h a (.ext (TriO a kxs)):=by refine⟨x,?_,λh1 h2 p k=>p.stay k⟩;let⟨_,_,_,_,o,_,_,e,_⟩:=x;exact⟨o,e⟩
def zmn:∀{kxs:List (K3×Addr×V)}{xs:List (K3×Addr×Ω)},Paired P3 kxs xs->xs.length=kxs.length
 |_,_,.nil=>rfl|_,_,.cons _ t=>by simp[zmn t]
def zeW:∀{kxs:List (K3×Addr×V)}{xs:List (K3×Addr×Ω)},Paired P3 kxs xs->xs.map (·.1)=kxs.map (·.1)
 |_,_,.nil=>rfl|_,_,.cons h t=>by rw[ϊ,ϊ,zeW t,h.1]
section
variable{P:Χ}{w:ϒ}{H:Hp}{h:Heap}{a c:Addr}{kxs:List (K3×Addr×V)}
def key3_of(ok:HOk P w H h)(e:Key3 H k c):IsTri P w h k c:=by let⟨b,e1,e2⟩:=e;let⟨_,its,rv,o,ho,hc,n,hd⟩:=(show ObjOk P w H h c (.tup _) from ok c _ e1);cases rv with| @cons _ v1 _ r1 q1 rv=>cases rv with| @cons _ v2 _ r2 q2 rv=>cases rv with| @cons _ v3 _ r3 q3 rv=>cases rv;let⟨t,rfl⟩:=q1;cases(show v2=Ω.ref b from q2);let⟨u,rfl⟩:=q3;refine⟨o,t,u,b,n,ho,hc,hd,?_⟩;have:=zhw (ks:=k.2.1.map Sum.inl) ok (a:=b) (by rw[map_map];exact e2);exact this
def ziV(ok:HOk P w H h)(e:H a=Φ (.ext (TriO a kxs)))(tk:TriK H kxs):kxs.length<=sizeLine/\(a==sysModules)=Θ/\∃xs,Paired P3 kxs xs/\h.DictOfH (zcj P w) a xs:=by
 let⟨⟨z,y,xs,r,o,es,ep,ho,hx,hd,he,nd⟩,_,_⟩:=(show ObjOk P w H h a (.ext _) from ok a _ e);refine⟨z,y,xs,r,o,es,ep,ho,hx,hd,?_,?_,nd⟩;rw[he];exact Ϣ λx _=>(zkw x).symm;have all:∀{l:List (K3×Addr×V)}{m:List (K3×Addr×Ω)},Paired P3 l m->TriK H l->∀x∈m,(zcj P w).is h x.1 x.2.1:=by
  intro l m q;induction q with
  |nil=>intro _ x hx;exact by cases hx
  | @cons p q ps qs hq t ih=>intro tk x hx;rcases mem_cons.mp hx with e|hx;subst e;rw[<-hq.1,<-hq.2.1];exact key3_of ok (tk p Υ);exact ih (λy hy=>tk y (Ρ _ hy)) x hx
 exact all r tk
end
abbrev put3(kxs:List (K3×Addr×V))(k:K3)(c:Addr)(v:V):List (K3×Addr×V):=if k∈kxs.map (·.1) then kxs.map (λx=>if x.1=k then(x.1,x.2.1,v) else x) else kxs++[(k,c,v)]
def zbU{k:K3}:(atKey xs k).isSome=decide (k∈xs.map (·.1)):=by unfold atKey;rw[Option.isSome_map];apply Bool.eq_iff_iff.mpr;rw[List.find?_isSome,decide_eq_true_eq,mem_map];constructor;rintro⟨x,hx,e⟩;exact⟨x,hx,by simpa using e⟩;rintro⟨x,hx,e⟩;exact⟨x,hx,by simpa using e⟩
def zqd(rv:RelV v r)(h:Paired P3 kxs xs):Paired P3 (put3 kxs k c v) (storedH xs k c r):=by
 unfold put3 storedH;rw[zbU,zeW h];by_cases hk:k∈kxs.map (·.1);rw[if_pos hk,if_pos (by simpa using hk)];clear hk;induction h with|nil=>exact .nil| @cons p q ps qs hq t ih=>rw[ϊ,ϊ];refine .cons ?_ ih;unfold putAt;by_cases e:p.1=k;rw[if_pos e,if_pos (by rw[<-hq.1];exact e)];exact⟨hq.1,hq.2.1,rv⟩;rw[if_neg e,if_neg (by rw[<-hq.1];exact e)];exact hq
 rw[if_neg hk,if_neg (by simpa using hk)];clear hk;induction h with|nil=>exact .cons ⟨rfl,rfl,rv⟩ .nil|cons hq t ih=>exact .cons hq ih
def put3_len(kxs)(k)(c)(v):(put3 kxs k c v).length<=kxs.length+1:=by unfold put3;split;rw[length_map];lia;simp
section
variable{X:Cx}{pins:List (Addr×Obj)}{σ:L2.St}{H:Hp}{s:Ι}{a c:Addr}{kxs:List (K3×Addr×V)}{k:K3}{v:V}{r:Ω}{A:ϔ}{E:Ω->Ι->Prop}
def ziy(hu:A.units+5<cLine)(I:Inv X pins σ H s)(e:H a=Φ (.ext (TriO a kxs)))(tk:TriK H kxs)(ek:Key3 H k c)(hl:kxs.length<sizeLine)(rv:RelV v r)(h:∀s',Inv X pins σ (upd H a (.ext (TriO a (put3 kxs k c v)))) s'->Q () s'):wpAny (model X.prog X.w) A (setItem (.ref a) (.ref c) r) Q E s:=by
 let⟨z,hd,xs,rel,dd⟩:=ziV I.hok e tk;have hz:xs.length<=sizeLine:=by rw[zmn rel];exact z
 have hl':=put3_len kxs k c v;refine wpAny_setItem_heap (knd:=zcj X.prog X.w) (hsz:=hz) (show A.units+1+4<cLine by omega) (key3_of I.hok ek) dd λh' dd' hs=>h _ ?_;let⟨q,es,ep,hq,h2,h3,h4,_,h5⟩:=dd';refine zgU I (by rw[e];exact True.intro) hs ⟨q,hq⟩ (TriO.objOk ⟨by omega,hd,_,zqd rv rel,q,es,ep,hq,h2,h3,?_,h5⟩);rw[h4];exact Ϣ λx _=>zkw x
def zsm(hu:A.units+5<cLine)(I:Inv X pins σ H s)(e:H a=Φ (.ext (TriO a kxs)))(tk:TriK H kxs)(ek:Key3 H k c)(h:∀s',Inv X pins σ H s'->Q (.bool (decide (k∈kxs.map (·.1)))) s'):
  wpAny (model X.prog X.w) A (compareOp .In (.ref c) (.ref a)) Q E s:=by
 let⟨z,hd,xs,rel,dd⟩:=ziV I.hok e tk;refine wpAny_in_heap (knd:=zcj X.prog X.w) (show A.units+1+4<cLine by omega) (key3_of I.hok ek) hd dd ?_;rw[zbU,zeW rel];exact h _ (I.kept λb o e=>e)
def zlW(hu:A.units+5<cLine)(I:Inv X pins σ H s)(e:H a=Φ (.ext (TriO a kxs)))(tk:TriK H kxs)(ek:Key3 H k c)(h:∀s',Inv X pins σ H s'->Q (.bool (!decide (k∈kxs.map (·.1)))) s'):
  wpAny (model X.prog X.w) A (compareOp .NotIn (.ref c) (.ref a)) Q E s:=by
 let⟨z,hd,xs,rel,dd⟩:=ziV I.hok e tk;refine wpAny_notIn_heap (knd:=zcj X.prog X.w) (show A.units+1+4<cLine by omega) (key3_of I.hok ek) hd dd ?_;rw[zbU,zeW rel];exact h _ (I.kept λb o e=>e)
def zlv:PE X (.Dict [] [] pos) (λ_ H Q=>∀p,H p=Ψ->Q (.ref p) (upd H p (.ext (TriO p [])))):=λpins s σ H Q I h=>
 wpAny_Dict_empty ⟨.ref s.heap.objs.size,_,I.laid (a:=s.heap.objs.size) (o:=.ext (TriO s.heap.objs.size [])) (t':=s.toks) (λ_ _ q=>Α _ q) (le_refl _)
  (TriO.objOk ⟨zero_le _,beq_eq_false_iff_ne.mpr (Ne.symm (ne_of_lt I.big)),[],.nil,_,#[],0,Μ _ rfl,⟨rfl,rfl,rfl⟩,rfl,rfl,List.nodup_nil⟩),rfl,h _ (I.hok.fresh (le_refl _))⟩
end
end R
namespace R
abbrev zrE(a b:Int×Int):Bool:=decide (b.2<a.2\/(a.2=b.2/\a.1<=b.1))
abbrev zo4(rows:List (Int×Int)):List (Int×Int):=rows.mergeSort zrE
abbrev bump:List (Int×Int)->Int->List (Int×Int)
 | [],w=>[(w,1)]|(k,c)::r,w=>if k=w then(k,c+1)::r else(k,c)::bump r w
abbrev zes(kvs:List (Int×Int))(ws:List (Option Int)):List (Int×Int):=ws.foldl (λa w=>match w with|some x=>bump a x|none=>a) kvs
noncomputable abbrev KP:=List Int×Int×Int
abbrev LtP(a b:KP):Prop:=lexZ a.1 b.1=Δ\/(a.1=b.1/\(a.2.1<b.2.1\/(a.2.1=b.2.1/\a.2.2<b.2.2)))
noncomputable instance(a b:KP):Decidable (LtP a b):=by unfold LtP;infer_instance
def za8(a):¬LtP a a:=by unfold LtP;rw[zb4];simp
def zdE(h:LtP a b)(k:LtP b c):LtP a c:=by unfold LtP at *;rcases h with h|⟨h1,h2⟩;rcases k with k|⟨k1,k2⟩;exact .inl (zfP h k);exact .inl (k1▸h);rcases k with k|⟨k1,k2⟩;exact .inl (h1▸k);exact .inr ⟨h1.trans k1,by lia⟩
def zfN(h:a≠b):LtP a b\/LtP b a:=by unfold LtP;let⟨a1,a2,a3⟩:=a;let⟨b1,b2,b3⟩:=b;dsimp only;by_cases e1:a1=b1;have:¬(a2=b2/\a3=b3):=λz=>h (by rw[e1,z.1,z.2]);by_cases e2:a2=b2;rcases Int.lt_or_gt_of_ne (λz=>this ⟨e2,z⟩) with z|z;exact .inl (.inr ⟨e1,.inr ⟨e2,z⟩⟩);exact .inr (.inr ⟨e1.symm,.inr ⟨e2.symm,z⟩⟩);rcases Int.lt_or_gt_of_ne e2 with z|z;exact .inl (.inr ⟨e1,.inl z⟩);exact .inr (.inr ⟨e1.symm,.inl z⟩);rcases zfQ e1 with z|z;exact .inl (.inl z);exact .inr (.inl z)
abbrev insP(x:KP):List KP->List KP
 | []=>[x]|y::l=>if x=y then y::l else if LtP x y then x::y::l else y::insP x l
abbrev zdm:List KP->List KP
 | []=>[]|x::l=>insP x (zdm l)
def ze8(x z):∀l:List KP,z∈insP x l↔z=x\/z∈l
 | []=>by simp[insP]| y::l=>by unfold insP;split;rename_i e;subst e;simp;split;simp;rw[mem_cons,ze8 x z l,mem_cons];constructor;rintro(h|h|h);exact .inr (.inl h);exact .inl h;exact .inr (.inr h);rintro(h|h|h);exact .inr (.inl h);exact .inl h;exact .inr (.inr h)
def zdL(x):∀{l:List KP},l.Pairwise LtP->(insP x l).Pairwise LtP
 | [],_=>by simp[insP]| y::l,h=>by have h':=pairwise_cons.mp h;unfold insP;split;exact h;rename_i ne;split;rename_i c;exact pairwise_cons.mpr ⟨λz hz=>by rcases mem_cons.mp hz with e|e;rw[e];exact c;exact zdE c (h'.1 z e),h⟩;rename_i c;refine pairwise_cons.mpr ⟨λz hz=>?_,zdL x h'.2⟩;rcases(ze8 x z l).mp hz with e|e;rw[e];rcases zfN (a:=y) (b:=x) (λz=>ne z.symm) with q|q;exact q;exact absurd q c;exact h'.1 z e
def zcv(z):∀l:List KP,z∈zdm l↔z∈l
 | []=>Iff.rfl|x::l=>by rw[zdm,ze8,zcv z l,mem_cons]
def zbE:∀l:List KP,(zdm l).Pairwise LtP
 | []=>Pairwise.nil|x::l=>zdL x (zbE l)
def zjK{l:List KP}(h:l.Pairwise LtP):l.Nodup:=by rw[List.nodup_iff_pairwise_ne];exact h.imp λ{a b} h e=>by subst e;exact za8 a h
def zdl:∀{a b:List KP},(∀z,z∈a↔z∈b)->a.Pairwise LtP->b.Pairwise LtP->a=b
 | [],[],_,_,_=>rfl| [],y::b,p,_,_=>absurd ((p y).mpr Υ) (by simp)|x::a,[],p,_,_=>absurd ((p x).mp Υ) (by simp)| x::a,y::b,p,ha,hb=>by
  have ha':=pairwise_cons.mp ha;have hb':=pairwise_cons.mp hb;have e:x=y:=by rcases mem_cons.mp ((p x).mp Υ) with e1|e1;exact e1;rcases mem_cons.mp ((p y).mpr Υ) with e2|e2;exact e2.symm;exact absurd (zdE (hb'.1 x e1) (ha'.1 y e2)) (za8 y)
  subst e;have:∀z,z∈a↔z∈b:=λz=>by constructor;intro h;rcases mem_cons.mp ((p z).mp (Ρ _ h)) with e|e;exact absurd (ha'.1 z h) (e▸za8 _);exact e;intro h;rcases mem_cons.mp ((p z).mpr (Ρ _ h)) with e|e;exact absurd (hb'.1 z h) (e▸za8 _);exact e
  rw[zdl this ha'.2 hb'.2]
end R
namespace R
open PySem (Str PyData Operator CmpOp)
set_option genInjectivity true in
inductive D where
 |non|bl (b:Bool)|int (i:Int)|str (x:Str)|tup (ds:List D)|ref (l:Nat)
 |fix (ds:List D)
inductive MO where
 |lst (ds:List D)|ins (c:Nat) (fs:List (Str×D))
 |d3 (kvs:List (K3×D))
structure St where
 frz:List MO
 new:List MO
 lk:List Nat
inductive Out(α:Type) where
 |ok (a:α) (S:St)
 |err (d:D) (S:St)
 |bad
abbrev Out.bind{α β:Type}(o:Out α)(f:α->St->Out β):Out β:=match o with|.ok a S=>f a S|.err d S=>.err d S|.bad=>.bad
abbrev lift{α:Type}(S:St):Option α->Out α
 |some a=>.ok a S|none=>.bad
namespace St
abbrev get(S:St)(l:Nat):Option MO:=if l<S.frz.length then S.frz[l]? else S.new[l-S.frz.length]?
abbrev len(S:St):Nat:=S.frz.length+S.new.length
abbrev push(S:St)(o:MO):St:={S with new:=S.new++[o]}
abbrev put(S:St)(l:Nat)(o:MO):Option St:=if l<S.frz.length then Ψ else if S.lk.contains l then Ψ else Φ {S with new:=S.new.set (l-S.frz.length) o}
abbrev enter(S:St):St:=⟨S.frz++S.new,[],[]⟩
end St
abbrev lay(S:St)(ds:List D):Out D:=if ds.length<=16777216 then .ok (.ref S.len) (S.push (.lst ds)) else .bad
abbrev wr(S:St)(l:Nat)(ds:List D)(d:D):Out D:=if ds.length<=16777216 then(match S.put l (.lst ds) with|some S'=>.ok d S'|none=>.bad) else .bad
abbrev pd(S:St):Nat->D->Option PyData
 |_,.non=>Φ .none|_,.bl b=>Φ (.bool b)|_,.int i=>Φ (.int i)|_,.str x=>if PySem.PyData.strOk x then Φ (.str x) else Ψ|n+1,.tup ds=>(ds.mapM (pd S n)).map PyData.tuple
 |n+1,.ref l=>match S.get l with
  |some (.lst ds)=>(ds.mapM (pd S n)).map PyData.list|_=>Ψ
 |_,.fix _=>Ψ|0,_=>Ψ
mutual
noncomputable def flat(n:Nat):D->Bool
 |.tup ds=>flats n ds|.ref l=>decide (l<n)|.fix ds=>flats n ds|_=>Δ
noncomputable def flats(n:Nat):List D->Bool
 | []=>Δ|d::ds=>flat n d&&flats n ds
end
abbrev zcw(S:St):D->Option (List D)
 |.tup ds=>Φ ds|.fix ds=>Φ ds
 |.ref l=>match S.get l with
  |some (.lst ds)=>Φ ds|_=>Ψ
 |_=>Ψ
abbrev lkOf(S:St):D->List Nat
 |.ref l=>[l]|_=>[]
abbrev tru(S:St):D->Option Bool
 |.non=>Φ Θ|.bl b=>Φ b|.int i=>Φ (i != 0)|.tup ds=>Φ (!ds.isEmpty)
 |.ref l=>match S.get l with
  |some (.lst ds)=>Φ (!ds.isEmpty)|_=>Ψ
 |_=>Ψ
abbrev tyOf(S:St):D->Option String
 |.non=>Φ "NoneType"|.bl _=>Φ "bool"|.int _=>Φ "int"|.str _=>Φ "str"|.tup _=>Φ "tuple"
 |.ref l=>match S.get l with
  |some (.lst _)=>Φ "list"|_=>Ψ
 |.fix _=>Ψ
abbrev ixN(n:Nat)(i:Int):Option Nat:=if 0<=i then(if i<n then Φ i.toNat else Ψ) else if -(n:Int)<=i then Φ (i+n).toNat else Ψ
abbrev atI{α:Type}(xs:List α)(i:Int):Option α:=(ixN xs.length i).bind λj=>xs[j]?
abbrev sIx(n d:Nat):Option Int->Nat
 |none=>d|some i=>if i<0 then(i+n).toNat else min i.toNat n
abbrev cut{α:Type}(xs:List α)(lo hi:Option Int):List α:=(xs.drop (sIx xs.length 0 lo)).take (sIx xs.length xs.length hi-sIx xs.length 0 lo)
abbrev zea:D->Option Int
 |.int i=>Φ i|_=>Ψ
abbrev zbI(m:Bool)(d:D):Option (Option Int):=if m then(match d with|.int i=>Φ (Φ i)|_=>Ψ) else Φ Ψ
abbrev zjD(i j:Int):Bool:=decide (-(2^64)<i/\i<2^64)||decide (-(2^64)<j/\j<2^64)
abbrev binI(S:St)(op:Operator)(i j:Int):Out D:=match op with|.Add=>.ok (.int (i+j)) S|.Sub=>.ok (.int (i-j)) S|.Mult=>if zjD i j then .ok (.int (i*j)) S else .bad|.FloorDiv=>if 0<j/\j<1073741824 then .ok (.int (i/j)) S else .bad|.Mod=>if 0<j then .ok (.int (i%j)) S else .bad|.Pow=>if 0<=j/\j<=1000000/\-18446744073709551616<i/\i<18446744073709551616 then .ok (.int (i^j.toNat)) S else .bad|_=>.bad
abbrev binD(S:St)(op:Operator)(x y:D):Out D:=match x,y with|.int i,.int j=>binI S op i j|.tup xs,.tup ys=>(match op with|.Add=>if xs.length+ys.length<=16777216 then .ok (.tup (xs++ys)) S else .bad|_=>.bad)|.ref a,.ref b=>(match op,S.get a,S.get b with|.Add,Φ (.lst xs),Φ (.lst ys)=>lay S (xs++ys)|_,_,_=>.bad)|_,_=>.bad
abbrev eqD(S:St)(x y:D):Option Bool:=(pd S 60 x).bind λa=>(pd S 60 y).map λb=>PyData.eqv a b
abbrev inD(S:St)(x:D)(ys:List D):Option Bool:=(ys.mapM λz=>eqD S z x).map λbs=>bs.any id
abbrev lexLt:List Int->List Int->Bool
 | [],[]=>Θ| [],_::_=>Δ|_::_,[]=>Θ|a::as,b::bs=>if a=b then lexLt as bs else decide (a<b)
abbrev zaI(ds:List D):Option (List Int):=ds.mapM zea
abbrev cmpI(op:CmpOp)(i j:Int):Option Bool:=match op with|.Eq=>Φ (decide (i=j))|.NotEq=>Φ (!decide (i=j))|.Lt=>Φ (decide (i<j))|.LtE=>Φ (decide (i<=j))|.Gt=>Φ (decide (j<i))|.GtE=>Φ (decide (j<=i))|_=>Ψ
abbrev zoe:D->Bool|.non=>Δ|_=>Θ
abbrev zl4:D->Option (Option Int)
 |.non=>Φ Ψ|.int i=>Φ (Φ i)|_=>Ψ
abbrev key3:D->Option K3
 |.tup [.int a,.tup ds,.int b]=>(zaI ds).map λp=>(a,p,b)|_=>Ψ
abbrev d3K(S:St):D->Option (List (K3×D))
 |.ref l=>(match S.get l with|some (.d3 kvs)=>Φ kvs|_=>Ψ)|_=>Ψ
abbrev zeS(kvs:List (K3×D))(k:K3)(v:D):List (K3×D):=if k∈kvs.map (·.1) then kvs.map (λx=>if x.1=k then(x.1,v) else x) else kvs++[(k,v)]
abbrev lpOf:D->Option KP
 |.tup [.tup ds,.int b,.int w]=>(zaI ds).map λp=>(p,b,w)|_=>Ψ
abbrev lpD(k:KP):D:=.tup [.tup (k.1.map .int),.int k.2.1,.int k.2.2]
abbrev zjP(S:St)(x:D):Option (List KP):=match x with|.ref p=>(match S.get p with|some (.lst ds)=>ds.mapM lpOf|_=>Ψ)|_=>Ψ
abbrev zfX(S:St)(x y:D):Option Bool:=match d3K S y with|some kvs=>(key3 x).map λk=>decide (k∈kvs.map (·.1))|none=>(zcw S y).bind λys=>inD S x ys
abbrev cmpO(S:St)(op:CmpOp)(x y:D):Option Bool:=match op with|.Eq=>eqD S x y|.NotEq=>(eqD S x y).map (!·)|.Is=>(match y with|.non=>Φ (zoe x)|.bl b=>(match x with|.bl a=>Φ (a==b)|_=>Ψ)|_=>Ψ)|.IsNot=>(match y with|.non=>Φ (!zoe x)|_=>Ψ)|.In=>zfX S x y|.NotIn=>(zfX S x y).map (!·)|.Lt=>(match x,y with|.tup xs,.tup ys=>(zaI xs).bind λa=>(zaI ys).map λb=>lexLt a b|_,_=>Ψ)|_=>Ψ
abbrev cmpD(S:St)(op:CmpOp)(x y:D):Option Bool:=match x,y with|.int i,.int j=>cmpI op i j|_,_=>cmpO S op x y
inductive Bi where
 |len
 |abs
 |max2
 |min2
 |isin (t:String)
abbrev zbo(ds:List D):Option (List (Option Int)):=ds.mapM zl4
inductive Mt where
 |append
 |popAt
 |count
abbrev bi(S:St):Bi->List D->Out D
 |.len,[x]=>(match x with
  |.tup ds=>.ok (.int ds.length) S|.fix ds=>.ok (.int ds.length) S|.ref l=>(match S.get l with|some (.lst ds)=>.ok (.int ds.length) S|_=>.bad)|_=>.bad)
 |.abs,[.int i]=>.ok (.int (if i<0 then -i else i)) S|.max2,[.int i,.int j]=>.ok (.int (if j>i then j else i)) S|.min2,[.int i,.int j]=>.ok (.int (if j<i then j else i)) S|.isin t,[x]=>(match tyOf S x with|some a=>.ok (.bl (a==t||(a=="bool"&&t=="int"))) S|none=>.bad)|_,_=>.bad
abbrev isL(S:St):D->Bool
 |.ref l=>(match S.get l with|some (.lst _)=>Δ|_=>Θ)|_=>Θ
abbrev mt(S:St):Mt->D->List D->Out D
 |.append,.ref l,[y]=>(match S.get l with|some (.lst ds)=>wr S l (ds++[y]) .non|_=>.bad)
 |.popAt,.ref l,[.int i]=>(match S.get l with
  |some (.lst ds)=>if 0<=i then(match ds[i.toNat]? with|some y=>wr S l (ds.eraseIdx i.toNat) y|none=>.bad) else .bad|_=>.bad)
 |.count,.ref l,[.int i]=>(match S.get l with
  |some (.lst ds)=>(match zbo ds with|some os=>.ok (.int (os.count (Φ i):Nat)) S|none=>.bad)|_=>.bad)
 |.count,.ref l,[.non]=>(match S.get l with
  |some (.lst ds)=>(match zbo ds with|some os=>.ok (.int (os.count Ψ:Nat)) S|none=>.bad)|_=>.bad)
 |_,_,_=>.bad
abbrev dPut(S:St)(x y v:D):Option St:=match x with
 |.ref l=>(match S.get l with
  |some (.d3 kvs)=>(key3 y).bind λk=>if kvs.length<16777216 then S.put l (.d3 (zeS kvs k v)) else Ψ|some (.lst ds)=>(zea y).bind λi=>(ixN ds.length i).bind λj=>S.put l (.lst (ds.set j v))|_=>Ψ)
 |_=>Ψ
abbrev zeb(S:St):D->Option (Nat×List (Str×D))
 |.ref l=>(match S.get l with|some (.ins c fs)=>Φ (c,fs)|_=>Ψ)|_=>Ψ
abbrev zjm(f:Str)(v:D):List (Str×D)->List (Str×D)
 | []=>[(f,v)]|(g,x)::r=>if g=f then(g,v)::r else(g,x)::zjm f v r
abbrev zbF(S:St)(x:D)(f:Str)(v:D):Option St:=match x with|.ref l=>(match S.get l with|some (.ins c fs)=>if fs.length<1000 then S.put l (.ins c (zjm f v fs)) else Ψ|_=>Ψ)|_=>Ψ
abbrev zmz:D->Bool|.non=>Δ|_=>Θ
abbrev stpI(n:Nat)(k:Int):List Nat:=PySem.sliceRange (if k>0 then 0 else(n:Int)-1) (if k>0 then(n:Int) else -1) k
abbrev stp{α:Type}(xs:List α)(k:Int):List α:=(stpI xs.length k).filterMap (xs[·]?)
mutual
inductive CE where
 |loc (i:Nat)
 |con (d:D)
 |tst (a:CE)
 |bin (op:Operator) (a b:CE)
 |neg (a:CE)
 |nt (a:CE)
 |cmp (op:CmpOp) (a b:CE)
 |cmp2 (op op':CmpOp) (a b c:CE)
 |and (a b:CE)
 |or (a b:CE)
 |ite (c a b:CE)
 |tup (es:CEs)
 |lst (es:CEs)
 |dnew3
 |ix (a b:CE)
 |fld (a:CE) (f:Str)
 |mk (c f:Nat) (x:Str) (j:Nat) (es:CEs)
 |meth (m:Str) (tb:List (Nat×Nat)) (o:CE) (es:CEs)
 |sl (a:CE) (ml mh:Bool) (lo hi:CE)
 |slS (a b:CE)
 |call (f j:Nat) (es:CEs)
 |bi (b:Bi) (es:CEs)
 |mt (m:Mt) (o:CE) (es:CEs)
 |mkL (l:CL)
 |mkT (l:CL)
 |all (l:CL)
 |ext (a:CE) (l:CL)
 |lenset (l:CL)
 |sset (a:CE)
 |ssetP (a:CE)
inductive CEs where
 |nil
 |cons (e:CE) (r:CEs)
inductive CL where
 |val (e:CE)
 |rng1 (a:CE)
 |rng2 (a b:CE)
 |enum (a:CE)
 |comp (nt:Nat) (js:List Nat) (g:List Nat) (it:CL) (c:CE) (e:CE)
end
inductive CS where
 |nil
 |stop
 |asg (i:Nat) (e:CE) (r:CS)
 |asgT (g:List Nat) (e:CE) (r:CS)
 |setIx (a b e:CE) (r:CS)
 |setF (a:CE) (f:Str) (e:CE) (r:CS)
 |ifS (c:CE) (t u:CS) (r:CS)
 |forS (g:List Nat) (l:CL) (b:CS) (r:CS)
 |ret (e:CE) (r:CS)
 |expr (e:CE) (r:CS)
@[reducible]def Ev:=List (Option D)
abbrev zeG:List Nat->List D->Ev->Ev
 |i::is,d::ds,δ=>zeG is ds (δ.set i (Φ d))|_,_,δ=>δ
abbrev asgG(g:List Nat)(x:D)(δ:Ev):Option Ev:=match g with| [i]=>Φ (δ.set i (Φ x))|is=>(match x with|.tup ds=>if ds.length=is.length then Φ (zeG is ds δ) else Ψ|_=>Ψ)
abbrev zcA(x y:D):D:=.tup [x,y]
abbrev zdS(S:St):D->Option (List D×List Nat)
 |.ref l=>(match S.get l with|some (.lst xs)=>Φ (xs.mapIdx λi d=>zcA (.int i) d,[l])|_=>Ψ)|.tup xs=>Φ (xs.mapIdx λi d=>zcA (.int i) d,[])|_=>Ψ
@[reducible]def CF:=Nat->List D->St->Out D
abbrev zc9(S:St)(d:D)(T:St):Out D:=
 if flat S.len d then .ok d S else
 let keep:Out D:=.ok d ⟨S.frz,S.new++T.new,S.lk⟩
 match d with
  |.ref l=>(match T.get l with
   |some (.lst ds)=>if flats S.len ds then .ok (.ref S.len) (S.push (.lst ds)) else keep|_=>keep)
  |_=>keep
abbrev zjZ(S:St)(d:D)(T:St):Out (List D):=match d with|.ref l=>if l<S.len then .bad else(match T.get l with|some (.lst ds)=>if flats S.len ds then .ok ds S else .bad|_=>.bad)|_=>.bad
@[irreducible]noncomputable def app(cf:CF)(f:Nat)(ds:List D)(S:St):Out D:=(cf f ds S.enter).bind λd T=>zc9 S d T
@[irreducible]noncomputable def appL(cf:CF)(f:Nat)(ds:List D)(S:St):Out (List D):=(cf f ds S.enter).bind λd T=>zjZ S d T
@[irreducible]noncomputable def appW(cf:CF)(f:Nat)(ds:List D)(S:St):Out D:=cf f ds S
abbrev csl(nt:Nat)(js:List Nat)(δ:Ev):Ev:=List.replicate nt Ψ++js.map λj=>(δ[j]?).join
abbrev zaw(g:List Nat)(c:Ev->St->Out Bool)(e:Ev->St->Out D):List D->Ev->St->Out (List D)
 | [],_,S=>.ok [] S| x::xs,δ,S=>match asgG g x δ with|none=>.bad|some δ'=>(c δ' S).bind λb S1=>if b then(e δ' S1).bind λd S2=>(zaw g c e xs δ' S2).bind λds S3=>.ok (d::ds) S3 else zaw g c e xs δ' S1
abbrev zbe{α:Type}(ls:List Nat)(S:St)(f:St->Out α):Out α:=(f {S with lk:=ls++S.lk}).bind λa S'=>.ok a {S' with lk:=S.lk}
abbrev zeC:D->Option Bool
 |.bl b=>Φ b|_=>Ψ
abbrev allD(ds:List D):Option Bool:=(ds.mapM zeC).map λbs=>bs.all id
abbrev insZ(x:Int):List Int->List Int
 | []=>[x]|y::l=>if x<=y then x::y::l else y::insZ x l
abbrev zeJ:List Int->List Int
 | []=>[]|x::l=>insZ x (zeJ l)
abbrev lstI(S:St)(x:D):Option (List Int):=match x with|.ref p=>(match S.get p with|some (.lst ds)=>zaI ds|_=>Ψ)|_=>Ψ
abbrev dedup(xs:List Int):List Int:=xs.foldl (λacc x=>if acc.contains x then acc else acc++[x]) []
section
variable(cf:CF)
mutual
noncomputable def evE(e₀:CE)(δ:Ev)(S:St):Out D:=match e₀ with
 |.loc i=>lift S (δ[i]?).join|.con d=>.ok d S|.tst _=>.bad|.bin op a b=>(evE a δ S).bind λx S1=>(evE b δ S1).bind λy S2=>binD S2 op x y|.neg a=>(evE a δ S).bind λx S1=>match x with|.int i=>.ok (.int (-i)) S1|_=>.bad
 |.nt a=>(evE a δ S).bind λx S1=>match x with|.bl b=>.ok (.bl (!b)) S1|_=>.bad
 |.cmp op a b=>(evE a δ S).bind λx S1=>(evE b δ S1).bind λy S2=>(lift S2 (cmpD S2 op x y)).bind λk S3=>.ok (.bl k) S3|.cmp2 op op' a b c=>(evE a δ S).bind λx S1=>(evE b δ S1).bind λy S2=>(lift S2 (cmpD S2 op x y)).bind λk S3=>if k then(evE c δ S3).bind λz S4=>(lift S4 (cmpD S4 op' y z)).bind λk' S5=>.ok (.bl k') S5 else .ok (.bl Θ) S3|.and a b=>(evE a δ S).bind λx S1=>match x with|.bl k=>if k then evE b δ S1 else .ok (.bl Θ) S1|_=>.bad
 |.or a b=>(evE a δ S).bind λx S1=>match x with|.bl k=>if k then .ok (.bl Δ) S1 else evE b δ S1|_=>.bad
 |.ite c a b=>(evT c δ S).bind λk S1=>if k then evE a δ S1 else evE b δ S1|.tup es=>(evEs es δ S).bind λds S1=>if ds.length<=16777216 then .ok (.tup ds) S1 else .bad|.lst es=>(evEs es δ S).bind λds S1=>lay S1 ds|.dnew3=>.ok (.ref S.len) (S.push (.d3 []))|.fld a f=>(evE a δ S).bind λx S1=>lift S1 ((zeb S1 x).bind λp=>p.2.lookup f)|.mk c f _ j es=>(evEs es δ S).bind λds S1=>(appW cf f (.ref S1.len::(ds++List.replicate j .non)) (S1.push (.ins c []))).bind λd S2=>if zmz d then .ok (.ref S1.len) S2 else .bad|.meth m tb o es=>(evE o δ S).bind λx S1=>(lift S1 (zeb S1 x)).bind λp S1=>(lift S1 (tb.lookup p.1)).bind λf S1=>if(p.2.lookup m).isNone then(evEs es δ S1).bind λds S2=>appW cf f (x::ds) S2 else .bad|.ix a b=>(evE a δ S).bind λx S1=>(evE b δ S1).bind λy S2=>match zcw S2 x,y with|some ds,.int i=>lift S2 (atI ds i)|_,_=>.bad
 |.slS a b=>(evE a δ S).bind λx S1=>(evE b δ S1).bind λy S2=>match x,y with
  |.ref p,.int k=>if k=0 then .bad else(match S2.get p with|some (.lst ds)=>lay S2 (stp ds k)|_=>.bad)|.tup ds,.int k=>if k = -1 then .ok (.tup ds.reverse) S2 else .bad|_,_=>.bad
 |.sl a ml mh lo hi=>(evE a δ S).bind λx S1=>(evE lo δ S1).bind λy S2=>(evE hi δ S2).bind λz S3=>match zbI ml y,zbI mh z with
  |some l,Φ h=>(match x with
   |.tup ds=>.ok (.tup (cut ds l h)) S3|.fix ds=>lay S3 (cut ds l h)|.ref p=>(match S3.get p with|some (.lst ds)=>lay S3 (cut ds l h)|_=>.bad)|_=>.bad)
  |_,_=>.bad
 |.call f j es=>(evEs es δ S).bind λds S1=>app cf f (ds++List.replicate j .non) S1|.bi b es=>(evEs es δ S).bind λds S1=>R.bi S1 b ds|.mt m o es=>(evE o δ S).bind λx S1=>if isL S1 x then(evEs es δ S1).bind λds S2=>R.mt S2 m x ds else .bad|.mkL l=>(evL l δ S).bind λr S1=>lay S1 r.1|.mkT l=>(evL l δ S).bind λr S1=>if r.1.length<=16777216 then .ok (.tup r.1) S1 else .bad|.all l=>(evL l δ S).bind λr S1=>(lift S1 (allD r.1)).bind λb S2=>.ok (.bl b) S2
 |.ext a l=>(evE a δ S).bind λx S1=>if isL S1 x then(evL l δ S1).bind λr S2=>(match x with
  |.ref p=>(match S2.get p with|some (.lst ds)=>wr S2 p (ds++r.1) .non|_=>.bad)|_=>.bad) else .bad
 |.lenset l=>(evL l δ S).bind λr S1=>(lift S1 (zaI r.1)).bind λis S2=>if is.length<4000 then .ok (.int (dedup is).length) S2 else .bad|.sset a=>(evE a δ S).bind λx S1=>(lift S1 (lstI S1 x)).bind λis S2=>if is.length<64 then lay S2 ((zeJ (dedup is)).map .int) else .bad|.ssetP a=>(evE a δ S).bind λx S1=>(lift S1 (zjP S1 x)).bind λks S2=>if ks.length<300 then lay S2 ((zdm ks).map lpD) else .bad
noncomputable def evEs(e₀:CEs)(δ:Ev)(S:St):Out (List D):=match e₀ with|.nil=>.ok [] S|.cons e r=>(evE e δ S).bind λd S1=>(evEs r δ S1).bind λds S2=>.ok (d::ds) S2
noncomputable def evT(e₀:CE)(δ:Ev)(S:St):Out Bool:=match e₀ with|.cmp op a b=>(evE a δ S).bind λx S1=>(evE b δ S1).bind λy S2=>lift S2 (cmpD S2 op x y)|.cmp2 op op' a b c=>(evE a δ S).bind λx S1=>(evE b δ S1).bind λy S2=>(lift S2 (cmpD S2 op x y)).bind λk S3=>if k then(evE c δ S3).bind λz S4=>lift S4 (cmpD S4 op' y z) else .ok Θ S3|.nt a=>(evT a δ S).bind λk S1=>.ok (!k) S1|.and a b=>(evT a δ S).bind λk S1=>if k then evT b δ S1 else .ok Θ S1|.or a b=>(evT a δ S).bind λk S1=>if k then .ok Δ S1 else evT b δ S1|.tst e=>(evE e δ S).bind λx S1=>lift S1 (tru S1 x)|_=>.bad
noncomputable def evL(e₀:CL)(δ:Ev)(S:St):Out (List D×List Nat):=match e₀ with
 |.val e=>(evE e δ S).bind λx S1=>(lift S1 (zcw S1 x)).bind λds S2=>.ok (ds,lkOf S2 x) S2|.rng1 a=>(evE a δ S).bind λx S1=>match x with|.int j=>if -(2^62)<=j/\j<2^62 then .ok ((List.range j.toNat).map λ(k:Nat)=>.int k,[]) S1 else .bad|_=>.bad
 |.rng2 a b=>(evE a δ S).bind λx S1=>(evE b δ S1).bind λy S2=>match x,y with
  |.int i,.int j=>if -(2^62)<=i/\i<2^62/\-(2^62)<=j/\j<2^62 then .ok ((List.range (j-i).toNat).map λ(k:Nat)=>.int (i+k),[]) S2 else .bad|_,_=>.bad
 |.enum a=>(evE a δ S).bind λx S1=>lift S1 (zdS S1 x)|.comp n js g it c e=>(evL it δ S).bind λr S1=>(zbe r.2 S1 λS2=>zaw g (evT c) (evE e) r.1 (csl n js δ) S2).bind λds S3=>if ds.length<=16777216 then .ok (ds,[]) S3 else .bad
end
inductive Fl where
 |nx (δ:Ev)|rt (d:D)
abbrev zbx(g:List Nat)(b:Ev->St->Out Fl):List D->Ev->St->Out Fl
 | [],δ,S=>.ok (.nx δ) S| x::xs,δ,S=>match asgG g x δ with|none=>.bad| some δ'=>(b δ' S).bind λf S1=>match f with|.nx δ2=>zbx g b xs δ2 S1|.rt d=>.ok (.rt d) S1
abbrev exS(e₀:CS)(δ:Ev)(S:St):Out Fl:=match e₀ with
 |.nil=>.ok (.nx δ) S|.stop=>.bad|.asg i e r=>(evE cf e δ S).bind λx S1=>exS r (δ.set i (Φ x)) S1|.asgT g e r=>(evE cf e δ S).bind λx S1=>(lift S1 (asgG g x δ)).bind λδ' S2=>exS r δ' S2|.setIx a b e r=>(evE cf e δ S).bind λv S1=>(evE cf a δ S1).bind λx S2=>(evE cf b δ S2).bind λy S3=>match dPut S3 x y v with|some S4=>exS r δ S4|none=>.bad
 |.setF a f e r=>(evE cf e δ S).bind λv S1=>(evE cf a δ S1).bind λx S2=>match zbF S2 x f v with|some S3=>exS r δ S3|none=>.bad
 |.ifS c t u r=>(evT cf c δ S).bind λk S1=>(if k then exS t δ S1 else exS u δ S1).bind λf S2=>match f with
  |.nx δ'=>exS r δ' S2|.rt d=>.ok (.rt d) S2
 |.forS g l b r=>(evL cf l δ S).bind λq S1=>(zbe q.2 S1 λS2=>zbx g (exS b) q.1 δ S2).bind λf S3=>match f with
  |.nx δ'=>exS r δ' S3|.rt d=>.ok (.rt d) S3
 |.ret e _=>(evE cf e δ S).bind λx S1=>.ok (.rt x) S1|.expr e r=>(evE cf e δ S).bind λ_ S1=>exS r δ S1
end
inductive Prim where
 |tally|way
 |lam
abbrev rowD(r:Int×Int):D:=.tup [.int r.1,.int r.2]
abbrev talD(os:List (Option Int)):List D:=(zo4 (zes [] os)).map rowD
abbrev prm(S:St):Prim->List D->Out D
 |.tally,[.ref l]=>(match S.get l with
  |some (.lst ws)=>(match zbo ws with
   |some os=>if(zes [] os).length<64/\os.length<=16777216 then .ok (.ref S.len) (S.push (.lst (talD os))) else .bad|none=>.bad)
  |_=>.bad)
 |.way,[.str x]=>if x=("oral":Str)\/x=("kings":Str) then .ok (.str x) S else .bad|_,_=>.bad
structure Fn where
 np:Nat
 nn:Nat
 body:CS
 prim:Option Prim
abbrev zaR(F:Fn)(ds:List D):Ev:=ds.map Φ++List.replicate (F.nn-F.np) Ψ
abbrev callF(P:List Fn):Nat->CF
 |0,_,_,_=>.bad
 |n+1,f,ds,S=>match P[f]? with
  | some F=>if ds.length=F.np then(match F.prim with
     |some .lam=>if 3<=n then(exS (callF P n) F.body (zaR F ds) S).bind λr T=>(match r with
      |.nx _=>.ok .non T|.rt d=>.ok d T) else .bad
     |some p=>if 3<=n then prm S p ds else .bad| none=>(exS (callF P n) F.body (zaR F ds) S).bind λr T=>match r with|.nx _=>.ok .non T|.rt d=>.ok d T)
    else .bad
  |none=>.bad
@[simp]theorem zaz{α β:Type}(a:α)(S:St)(f:α->St->Out β):(Out.ok a S).bind f=f a S:=rfl
@[simp]theorem zrm{α β:Type}(f:α->St->Out β):(Out.bad:Out α).bind f=.bad:=rfl
@[simp]theorem zrl{α β:Type}(d:D)(S:St)(f:α->St->Out β):(Out.err d S:Out α).bind f=.err d S:=rfl
@[simp]theorem zjW{α:Type}(S:St)(a:α):lift S (Φ a)=.ok a S:=rfl
def zaZ(S:St):S.enter.get=S.get:=by funext l;simp![St.get,St.enter,length_append,List.getElem?_append];by_cases h:l<S.frz.length;simp[h,lt_of_lt_of_le h (Nat.le_add_right _ _)];simp![h,if_false];split;rfl;simp![List.getElem?_nil];exact(ϝ (by lia)).symm
@[simp]theorem zkv(S:St):S.enter.frz=S.frz++S.new:=rfl
@[simp]theorem zq2(S:St):S.enter.new=[]:=rfl
@[simp]theorem zrk(S:St):S.enter.lk=[]:=rfl
@[simp]theorem zku(S:St):S.enter.len=S.len:=by simp[St.len]
def zn7(S:St):(S.frz++S.new).length=S.len:=by simp[St.len]
def get_lt{S:St}(h:S.get l=Φ o):l<S.len:=by unfold St.get at h;unfold St.len;split at h;lia;have:=(Ζ.mp h).1;lia
def zdO{S:St}(h:S.get l=Φ o)(nw)(lk):(St.mk (S.frz++S.new) nw lk).get l=Φ o:=by
 have hl:=get_lt h;rw[<-zaZ]at h;unfold St.get at h⊢;have e:l<(S.frz++S.new).length:=by rw[zn7];exact hl
 simp![zkv,e,if_true]at h⊢;exact h
def zbL(F nw)(lk)(i):(St.mk F nw lk).get (F.length+i)=nw[i]?:=by
 have:¬F.length+i<F.length:=by lia
 simp[St.get,this]
def zlP(F nw)(lk):(St.mk F nw lk).get F.length=nw[0]?:=zbL F nw lk 0
@[simp]theorem zrh(n:Nat):flat n .non=Δ:=by simp[flat]
@[simp]theorem zsg(n:Nat)(b:Bool):flat n (.bl b)=Δ:=by simp[flat]
@[simp]theorem zri(n:Nat)(i:Int):flat n (.int i)=Δ:=by simp[flat]
@[simp]theorem zrg(n:Nat)(x:Str):flat n (.str x)=Δ:=by simp[flat]
@[simp]theorem zhE(n:Nat)(ds:List D):flat n (.tup ds)=flats n ds:=by simp[flat]
@[simp]theorem zrj(n:Nat)(ds:List D):flat n (.fix ds)=flats n ds:=by simp[flat]
@[simp]theorem zq0(n:Nat):flats n []=Δ:=by simp[flats]
@[simp]theorem zeq(n:Nat)(d:D)(ds:List D):flats n (d::ds)=(flat n d&&flats n ds):=by simp[flats]
@[simp]theorem zf0(n:Nat):∀ds es:List D,flats n (ds++es)=(flats n ds&&flats n es)
  | [],es=>by simp|d::ds,es=>by simp[zf0 n ds es,Bool.and_assoc]
def zaJ(n):∀ds:List D,flats n ds=Δ↔∀d∈ds,flat n d=Δ
 | []=>by simp|d::ds=>by simp[zaJ n ds]
@[simp]theorem zoL(n:Nat)(ns:List Int):flats n (ns.map D.int)=Δ:=by rw[zaJ];simp
@[simp]theorem zir(S:St)(d:D)(T:St)(h:flat S.len d=Δ):zc9 S d T=.ok d S:=by simp[zc9,h]
abbrev W{α:Type}(o:Out α)(Q:α->St->Prop):Prop:=match o with|.ok a S=>Q a S|_=>False
@[simp]theorem W_ok{α:Type}(a:α)(S:St)(Q:α->St->Prop):W (.ok a S) Q=Q a S:=rfl
@[simp]theorem zsu{α:Type}(Q:α->St->Prop):W (.bad:Out α) Q=False:=rfl
@[simp]theorem zst{α:Type}(d:D)(S:St)(Q:α->St->Prop):W (.err d S:Out α) Q=False:=rfl
@[simp]theorem zab{α β:Type}(o:Out α)(f:α->St->Out β)(Q:β->St->Prop):W (o.bind f) Q=W o λa S=>W (f a S) Q:=by cases o<;>rfl
def W.mono(h:W o Q)(b:∀a S,Q a S->c a S):W o c:=by cases o with|ok a S=>exact b a S h|err d S=>exact h|bad=>exact h
def W.eq(h:W o λa T=>a=d/\T=S):o=.ok d S:=by cases o with|ok a T=>let⟨rfl,rfl⟩:=h;rfl|err d S=>exact False.elim h|bad=>exact False.elim h
def W.of(h:o=.ok d S)(q:Q d S):W o Q:=by rw[h];exact q
def W.iff:W o Q↔∃a S,o=.ok a S/\Q a S:=by cases o with|ok a S=>exact⟨λh=>⟨a,S,rfl,h⟩,λ⟨_,_,e,h⟩=>by cases e;exact h⟩|err d S=>exact⟨λh=>h.elim,λk=>(by let⟨_,_,e,_⟩:=k;cases e)⟩|bad=>exact⟨λh=>h.elim,λz=>(by let⟨_,_,e,_⟩:=z;cases e)⟩
abbrev fin(S:St)(r:Fl)(T:St):Out D:=match r with|.nx _=>zc9 S .non T|.rt d=>zc9 S d T
@[simp]theorem zkq(S T:St)(d:D):fin S (.rt d) T=zc9 S d T:=rfl
@[simp]theorem zss(S T:St)(δ:Ev):fin S (.nx δ) T=.ok .non S:=by simp[fin]
def zgm(h:P[f]?=Φ F)(hl:ds.length=F.np)(hp:F.prim=Ψ:=by rfl):
  app (callF P (n+1)) f ds S=(exS (callF P n) F.body (zaR F ds) S.enter).bind λr T=>fin S r T:=by
 simp![app,callF,h,hl,hp,if_true];generalize exS (callF P n) F.body (zaR F ds) S.enter=o;cases o with|ok r T=>cases r<;>rfl|err d S=>rfl|bad=>rfl
abbrev finL(S:St)(r:Fl)(T:St):Out (List D):=match r with|.nx _=>.bad|.rt d=>zjZ S d T
@[simp]theorem zsh(S T:St)(d:D):finL S (.rt d) T=zjZ S d T:=rfl
def zan(I:Nat->Ev->St->Prop)(Rt:D->St->Prop):∀(xs:List D)(k:Nat)(δ:Ev)(S:St),I k δ S->
  (∀i x δ S,xs[i]?=Φ x->I (k+i) δ S->∃δ',asgG g x δ=Φ δ'/\W (b δ' S) λf S'=>match f with|.nx δ2=>I (k+i+1) δ2 S'|.rt d=>Rt d S')->
  W (zbx g b xs δ S) λf S'=>match f with|.nx δ'=>I (k+xs.length) δ' S'|.rt d=>Rt d S'
 | [],k,δ,S,h,_=>by simpa[zbx]using h| x::xs,k,δ,S,h,step=>by let⟨δ',e,w⟩:=step 0 x δ S rfl h;simp![zbx,e,zab];refine w.mono λf S1 hf=>?_;cases f with|rt d=>exact hf| nx δ2=>have ih:=zan I Rt xs (k+1) δ2 S1 hf (λi y δ S hy hi=>by have:=step (i+1) y δ S (by simpa using hy) (by rw[show k+(i+1)=k+1+i by lia];exact hi);rw[show k+(i+1)+1=k+1+i+1 by lia]at this;exact this);rw[show k+1+xs.length=k+(x::xs).length by simp;lia]at ih;exact ih
def za9(p)(f):∀(xs:List D)(o:Option D),
  (∀x∈xs,c (Φ x::rest) S=.ok (p x) S)->(∀x∈xs,p x=Δ->e (Φ x::rest) S=.ok (f x) S)->zaw [0] c e xs (o::rest) S=.ok ((xs.filter p).map f) S
 | [],o,_,_=>rfl| x::xs,o,hc,he=>by have ih:=za9 p f xs (Φ x) (λy hy=>hc y (Ρ _ hy)) (λy hy=>he y (Ρ _ hy));simp![zaw,asgG,List.set_cons_zero,hc x Υ,zaz];cases hp:p x with|false=>simp[ih,hp]|true=>simp[ih,hp,he x Υ hp]
def zbW(f)(xs)(o)(hc:∀x∈xs,c (Φ x::rest) S=.ok Δ S)(he:∀x∈xs,e (Φ x::rest) S=.ok (f x) S):zaw [0] c e xs (o::rest) S=.ok (xs.map f) S:=by
 have:=za9 (c:=c) (e:=e) (S:=S) (rest:=rest) (λ_=>Δ) f xs o hc (λx hx _=>he x hx);rw[List.filter_eq_self.mpr (λ_ _=>rfl)]at this;exact this
@[simp]theorem zoK{α:Type}(S:St)(f:St->Out α):zbe [] S f=(f S).bind λa S'=>.ok a {S' with lk:=S.lk}:=rfl
def W.b(h:W (o.bind f) Q):W o λa S=>W (f a S) Q:=Eq.mp (zab o f Q) h
abbrev wIf(c:Bool)(P Q:Prop):Prop:=match c with|true=>P|false=>Q
@[irreducible]def wOpt{α:Type}(o:Option α)(k:α->Prop):Prop:=match o with|some a=>k a|none=>False
@[irreducible]def zaT(p k:Prop):Prop:=p/\k
@[irreducible]def wOut{α:Type}(o:Out α)(Q:α->St->Prop):Prop:=W o Q
def zhP(h:c=Δ)(k:P):wIf c P Q:=by subst h;exact k
def ziL(h:c=Θ)(k:Q):wIf c P Q:=by subst h;exact k
def ziK(h1:c=Δ->P)(h2:c=Θ->Q):wIf c P Q:=by cases c with|true=>exact zhP rfl (h1 rfl)|false=>exact ziL rfl (h2 rfl)
def zbp[Decidable p](h1:p->P)(h2:¬p->Q):wIf (decide p) P Q:=ziK (λh=>h1 (of_decide_eq_true h)) (λh=>h2 (of_decide_eq_false h))
def wOpt_of(h:o=Φ a)(q:k a):wOpt o k:=by unfold wOpt;rw[h];exact q
def wNeed_of(h:p)(q:k):zaT p k:=by unfold zaT;exact⟨h,q⟩
def wOut_of(h:o=.ok a S)(q:Q a S):wOut o Q:=by unfold wOut;rw[h];exact q
def zcu(h:W o Q):wOut o Q:=by unfold wOut;exact h
def zoS:wOpt o (λa=>Q a S)=W (lift S o) Q:=by unfold wOpt;cases o<;>rfl
def zaN(h:wOpt o k):∃a,o=Φ a/\k a:=by unfold wOpt at h;cases o with|none=>exact h.elim|some a=>exact⟨a,rfl,h⟩
def zbC[Decidable p](h:zaT p k)(q:k->W o Q):W (if p then o else .bad) Q:=by unfold zaT at h;rw[if_pos h.1];exact q h.2
@[reducible]def wGet(S:St)(l:Nat)(k:MO->Prop):Prop:=wOpt (S.get l) k
@[reducible]def wPut(S:St)(l:Nat)(o:MO)(k:St->Prop):Prop:=wOpt (S.put l o) k
def zbq{S:St}(h:S.get l=Φ o)(q:k o):wGet (St.mk (S.frz++S.new) nw lk) l k:=wOpt_of (zdO h nw lk) q
def zay(h:nw[i]?=Φ o)(q:k o):wGet (St.mk F nw lk) (F.length+i) k:=wOpt_of ((zbL F nw lk i).trans h) q
def znA(h:lk.contains (F.length+i)=Θ):(St.mk F nw lk).put (F.length+i) o=Φ ⟨F,nw.set i o,lk⟩:=by
 have h1:¬F.length+i<F.length:=by lia
 simp![St.put,h1,if_false,h,Κ,Nat.add_sub_cancel_left]
def zbV(h:lk.contains (F.length+i)=Θ)(q:k ⟨F,nw.set i o,lk⟩):wPut (St.mk F nw lk) (F.length+i) o k:=wOpt_of (znA h) q
abbrev wLay(S:St)(ds:List D)(Q:D->St->Prop):Prop:=zaT (ds.length<=16777216) (Q (.ref S.len) (S.push (.lst ds)))
def zfn(h:wLay S ds Q):W (lay S ds) Q:=zbC h id
abbrev wWr(S:St)(l:Nat)(ds:List D)(d:D)(Q:D->St->Prop):Prop:=zaT (ds.length<=16777216) (wPut S l (.lst ds) λS'=>Q d S')
def zmS(h:wWr S l ds d Q):W (wr S l ds d) Q:=by refine zbC h λh=>?_;let⟨_,e,h⟩:=zaN h;rw[e];exact h
abbrev zoU(S:St)(op:Operator)(i j:Int)(Q:D->St->Prop):Prop:=match op with|.Add=>Q (.int (i+j)) S|.Sub=>Q (.int (i-j)) S|.Mult=>zaT (zjD i j=Δ) (Q (.int (i*j)) S)|.FloorDiv=>zaT (0<j/\j<1073741824) (Q (.int (i/j)) S)|.Mod=>zaT (0<j) (Q (.int (i%j)) S)|.Pow=>zaT (0<=j/\j<=1000000/\-18446744073709551616<i/\i<18446744073709551616) (Q (.int (i^j.toNat)) S)|_=>False
abbrev wBin(S:St)(op:Operator)(x y:D)(Q:D->St->Prop):Prop:=match x,y with|.int i,.int j=>zoU S op i j Q|.tup xs,.tup ys=>(match op with|.Add=>zaT (xs.length+ys.length<=16777216) (Q (.tup (xs++ys)) S)|_=>False)|.ref a,.ref b=>(match op with|.Add=>wGet S a λo=>wGet S b λu=>(match o,u with|.lst xs,.lst ys=>wLay S (xs++ys) Q|_,_=>False)|_=>False)|_,_=>False
def zoT(h:wBin S op x y Q):W (binD S op x y) Q:=by
 unfold wBin at h;unfold binD;split at h
 . unfold zoU zaT at h;unfold binI;split at h<;>(try dsimp only)<;>first|exact h|(rw[if_pos h.1];exact h.2)|exact False.elim h
 split at h;exact zbC h id;exact h.elim;split at h
 . let⟨o,e1,h⟩:=zaN h;let⟨u,e2,h⟩:=zaN h;simp![e1,e2];cases o<;>cases u<;>first|exact zfn h|exact h.elim
 exact h.elim;exact h.elim
abbrev wCmp(S:St)(op:CmpOp)(x y:D)(Q:Bool->Prop):Prop:=match x,y with|.int i,.int j=>(match cmpI op i j with|some k=>Q k|none=>False)| _,_=>(match op with|.Is=>(match cmpO S .Is x y with|some k=>Q k|none=>False)|.IsNot=>(match cmpO S .IsNot x y with|some k=>Q k|none=>False)|_=>wOpt (cmpO S op x y) Q)
def zoC(h:∀i j,x=.int i->y=.int j->False):cmpD S op x y=cmpO S op x y:=by unfold cmpD;split;rename_i i j;exact(h i j rfl rfl).elim;rfl
def ziN(h:wCmp S op x y Q):∃k,cmpD S op x y=Φ k/\Q k:=by
 have fin:∀o:Option Bool,(match o with|some k=>Q k|none=>False)->∃k,o=Φ k/\Q k:=λo q=>by cases o with|none=>exact q.elim|some k=>exact⟨k,rfl,q⟩
 unfold wCmp at h;split at h;exact fin _ h;rename_i a;rw[zoC a];split at h;exact fin _ h;exact fin _ h;unfold wOpt at h;cases e:cmpO S op x y with|none=>rw[e]at h;exact h.elim|some k=>rw[e]at h;exact⟨k,rfl,h⟩
def zl9(h:wCmp S op x y λk=>Q k S):W (lift S (cmpD S op x y)) Q:=by let⟨k,e,q⟩:=ziN h;rw[e];exact q
abbrev wBi(S:St)(b:Bi)(ds:List D)(Q:D->St->Prop):Prop:=match b,ds with
 |.len,[x]=>(match x with
  |.tup ds=>Q (.int ds.length) S|.fix ds=>Q (.int ds.length) S|.ref l=>wGet S l λo=>(match o with|.lst ds=>Q (.int ds.length) S|_=>False)|_=>False)
 |.abs,[.int i]=>Q (.int (if i<0 then -i else i)) S|.max2,[.int i,.int j]=>Q (.int (if j>i then j else i)) S|.min2,[.int i,.int j]=>Q (.int (if j<i then j else i)) S|.isin t,[x]=>wOpt (tyOf S x) λa=>Q (.bl (a==t||(a=="bool"&&t=="int"))) S|_,_=>False
def zrp(h:wBi S b ds Q):W (bi S b ds) Q:=by
 unfold wBi at h;split at h
 all_goals
  repeat' first
  |exact h
  |exact h.elim
  |split at h
  |(let⟨o,e,h⟩:=zaN h;simp![bi,e])
abbrev wIsL(S:St)(x:D)(P:Prop):Prop:=match x with|.ref l=>wGet S l λo=>(match o with|.lst _=>P|_=>False)|_=>False
def ziJ(h:wIsL S x P):isL S x=Δ/\P:=by
 unfold wIsL at h;split at h
 . let⟨o,e,h⟩:=zaN h;cases o<;>first|exact⟨by simp![isL,e],h⟩|exact h.elim
 exact h.elim
abbrev wMt(S:St)(m:Mt)(x:D)(ds:List D)(Q:D->St->Prop):Prop:=match m,x,ds with
 |.append,.ref l,[y]=>wGet S l λo=>(match o with|.lst ds=>wWr S l (ds++[y]) .non Q|_=>False)
 |.popAt,.ref l,[.int i]=>wGet S l λo=>(match o with
  |.lst ds=>zaT (0<=i) (wOpt ds[i.toNat]? λy=>wWr S l (ds.eraseIdx i.toNat) y Q)|_=>False)
 |.count,.ref l,[.int i]=>wGet S l λo=>(match o with
  |.lst ds=>wOpt (zbo ds) λos=>Q (.int (os.count (Φ i):Nat)) S|_=>False)
 |.count,.ref l,[.non]=>wGet S l λo=>(match o with
  |.lst ds=>wOpt (zbo ds) λos=>Q (.int (os.count Ψ:Nat)) S|_=>False)
 |_,_,_=>False
def zrn(h:wMt S m x ds Q):W (mt S m x ds) Q:=by
 unfold wMt at h;split at h
 all_goals
  repeat' first
  |exact h.elim
  |exact h
  |exact zmS h
  |refine zbC h λh=>?_
  |(let⟨o,e,h⟩:=zaN h;simp![mt,e])
  |split at h
abbrev wSeq(S:St)(x:D)(k:List D->Prop):Prop:=match x with|.tup ds=>k ds|.fix ds=>k ds|.ref l=>wGet S l λo=>(match o with|.lst ds=>k ds|_=>False)|_=>False
def ziG(h:wSeq S x k):∃ds,zcw S x=Φ ds/\k ds:=by
 unfold wSeq at h;split at h;exact⟨_,rfl,h⟩;exact⟨_,rfl,h⟩
 . let⟨o,e,h⟩:=zaN h;cases o<;>first|exact⟨_,by simp![zcw,e],h⟩|exact h.elim
 exact h.elim
abbrev wTru(S:St)(x:D)(Q:Bool->Prop):Prop:=match x with|.bl b=>Q b|.non=>Q Θ|.int i=>Q (i != 0)|.tup ds=>Q (!ds.isEmpty)|.ref l=>wGet S l λo=>(match o with|.lst ds=>Q (!ds.isEmpty)|_=>False)|_=>False
def zoQ(h:wTru S x λk=>Q k S):W (lift S (tru S x)) Q:=by
 unfold wTru at h;split at h
 all_goals
  repeat' first
  |exact h
  |exact h.elim
  |split at h
  |(let⟨o,e,h⟩:=zaN h;simp![tru,e])
@[irreducible]def zhO{α:Type}(ls:List Nat)(S:St)(f:St->Out α)(Q:α->St->Prop):Prop:=W (zbe ls S f) Q
def ziI(h:zhO ls S f Q):W (zbe ls S f) Q:=by unfold zhO at h;exact h
def zal(h:W (f {S with lk:=ls++S.lk}) λa T=>Q a {T with lk:=S.lk}):zhO ls S f Q:=by unfold zhO zbe;rw[zab];exact h
section
variable(cf:CF)
mutual
noncomputable def wE(e₀:CE)(δ:Ev)(S:St)(Q:(D->St->Prop)):Prop:=match e₀ with
 |.loc i=>(match (δ[i]?).join with|some d=>Q d S|none=>False)|.con d=>Q d S|.tst _=>False|.bin op a b=>wE a δ S λx S1=>wE b δ S1 λy S2=>wBin S2 op x y Q|.neg a=>wE a δ S λx S1=>(match x with|.int i=>Q (.int (-i)) S1|_=>False)|.nt a=>wE a δ S λx S1=>(match x with|.bl b=>Q (.bl (!b)) S1|_=>False)|.cmp op a b=>wE a δ S λx S1=>wE b δ S1 λy S2=>wCmp S2 op x y λk=>Q (.bl k) S2|.cmp2 op op' a b c=>wE a δ S λx S1=>wE b δ S1 λy S2=>wCmp S2 op x y λk=>wIf k (wE c δ S2 λz S4=>wCmp S4 op' y z λk'=>Q (.bl k') S4) (Q (.bl Θ) S2)|.and a b=>wE a δ S λx S1=>(match x with|.bl k=>wIf k (wE b δ S1 Q) (Q (.bl Θ) S1)|_=>False)|.or a b=>wE a δ S λx S1=>(match x with|.bl k=>wIf k (Q (.bl Δ) S1) (wE b δ S1 Q)|_=>False)|.ite c a b=>wT c δ S λk S1=>wIf k (wE a δ S1 Q) (wE b δ S1 Q)|.tup es=>wEs es δ S λds S1=>zaT (ds.length<=16777216) (Q (.tup ds) S1)|.lst es=>wEs es δ S λds S1=>wLay S1 ds Q|.dnew3=>Q (.ref S.len) (S.push (.d3 []))|.fld a f=>wE a δ S λx S1=>wOpt ((zeb S1 x).bind λp=>p.2.lookup f) λv=>Q v S1|.mk c f _ j es=>wEs es δ S λds S1=>wOut (appW cf f (.ref S1.len::(ds++List.replicate j .non)) (S1.push (.ins c []))) λd S2=>zaT (zmz d=Δ) (Q (.ref S1.len) S2)|.meth m tb o es=>wE o δ S λx S1=>wOpt (zeb S1 x) λp=>wOpt (tb.lookup p.1) λf=>zaT ((p.2.lookup m).isNone=Δ) (wEs es δ S1 λds S2=>wOut (appW cf f (x::ds) S2) Q)|.ix a b=>wE a δ S λx S1=>wE b δ S1 λy S2=>wSeq S2 x λds=>(match y with|.int i=>wOpt (atI ds i) λd=>Q d S2|_=>False)
 |.slS a b=>wE a δ S λx S1=>wE b δ S1 λy S2=>(match x,y with
  |.ref p,.int k=>zaT (k≠0) (wGet S2 p λo=>(match o with|.lst ds=>wLay S2 (stp ds k) Q|_=>False))|.tup ds,.int k=>zaT (k = -1) (Q (.tup ds.reverse) S2)|_,_=>False)
 |.sl a ml mh lo hi=>wE a δ S λx S1=>wE lo δ S1 λy S2=>wE hi δ S2 λz S3=>(match zbI ml y,zbI mh z with
  |some l,Φ h=>(match x with
   |.tup ds=>Q (.tup (cut ds l h)) S3|.fix ds=>wLay S3 (cut ds l h) Q|.ref p=>wGet S3 p λo=>(match o with|.lst ds=>wLay S3 (cut ds l h) Q|_=>False)|_=>False)
  |_,_=>False)
 |.call f j es=>wEs es δ S λds S1=>wOut (app cf f (ds++List.replicate j .non) S1) Q|.bi b es=>wEs es δ S λds S1=>wBi S1 b ds Q|.mt m o es=>wE o δ S λx S1=>wIsL S1 x (wEs es δ S1 λds S2=>wMt S2 m x ds Q)|.mkL l=>wL l δ S λr S1=>wLay S1 r.1 Q|.mkT l=>wL l δ S λr S1=>zaT (r.1.length<=16777216) (Q (.tup r.1) S1)|.all l=>wL l δ S λr S1=>wOpt (allD r.1) λb=>Q (.bl b) S1
 |.ext a l=>wE a δ S λx S1=>wIsL S1 x (wL l δ S1 λr S2=>(match x with
  |.ref p=>wGet S2 p λo=>(match o with|.lst ds=>wWr S2 p (ds++r.1) .non Q|_=>False)|_=>False))
 |.lenset l=>wL l δ S λr S1=>wOpt (zaI r.1) λis=>zaT (is.length<4000) (Q (.int (dedup is).length) S1)|.sset a=>wE a δ S λr S1=>wOpt (lstI S1 r) λis=>zaT (is.length<64) (wLay S1 ((zeJ (dedup is)).map .int) Q)|.ssetP a=>wE a δ S λr S1=>wOpt (zjP S1 r) λks=>zaT (ks.length<300) (wLay S1 ((zdm ks).map lpD) Q)
noncomputable def wEs(e₀:CEs)(δ:Ev)(S:St)(Q:(List D->St->Prop)):Prop:=match e₀ with|.nil=>Q [] S|.cons e r=>wE e δ S λd S1=>wEs r δ S1 λds S2=>Q (d::ds) S2
noncomputable def wT(e₀:CE)(δ:Ev)(S:St)(Q:(Bool->St->Prop)):Prop:=match e₀ with|.cmp op a b=>wE a δ S λx S1=>wE b δ S1 λy S2=>wCmp S2 op x y λk=>Q k S2|.cmp2 op op' a b c=>wE a δ S λx S1=>wE b δ S1 λy S2=>wCmp S2 op x y λk=>wIf k (wE c δ S2 λz S4=>wCmp S4 op' y z λk'=>Q k' S4) (Q Θ S2)|.nt a=>wT a δ S λk S1=>Q (!k) S1|.and a b=>wT a δ S λk S1=>wIf k (wT b δ S1 Q) (Q Θ S1)|.or a b=>wT a δ S λk S1=>wIf k (Q Δ S1) (wT b δ S1 Q)|.tst e=>wE e δ S λx S1=>wTru S1 x λk=>Q k S1|_=>False
noncomputable def wL(e₀:CL)(δ:Ev)(S:St)(Q:(List D×List Nat->St->Prop)):Prop:=match e₀ with
 |.val e=>wE e δ S λx S1=>wSeq S1 x λds=>Q (ds,lkOf S1 x) S1|.rng1 a=>wE a δ S λx S1=>(match x with|.int j=>zaT (-(2^62)<=j/\j<2^62) (Q ((List.range j.toNat).map λ(k:Nat)=>.int k,[]) S1)|_=>False)
 |.rng2 a b=>wE a δ S λx S1=>wE b δ S1 λy S2=>(match x,y with
  |.int i,.int j=>zaT (-(2^62)<=i/\i<2^62/\-(2^62)<=j/\j<2^62) (Q ((List.range (j-i).toNat).map λ(k:Nat)=>.int (i+k),[]) S2)|_,_=>False)
 |.enum a=>wE a δ S λx S1=>wOpt (zdS S1 x) λr=>Q r S1|.comp n js g it c e=>wL it δ S λr S1=>zhO r.2 S1 (λS2=>zaw g (evT cf c) (evE cf e) r.1 (csl n js δ) S2) λds S3=>zaT (ds.length<=16777216) (Q (ds,[]) S3)
end
abbrev wS(e₀:CS)(δ:Ev)(S:St)(Q:(Fl->St->Prop)):Prop:=match e₀ with|.nil=>Q (.nx δ) S|.stop=>False|.asg i e r=>wE cf e δ S λx S1=>wS r (δ.set i (Φ x)) S1 Q|.asgT g e r=>wE cf e δ S λx S1=>wOpt (asgG g x δ) λδ'=>wS r δ' S1 Q|.setIx a b e r=>wE cf e δ S λv S1=>wE cf a δ S1 λx S2=>wE cf b δ S2 λy S3=>wOpt (dPut S3 x y v) λS4=>wS r δ S4 Q|.setF a f e r=>wE cf e δ S λv S1=>wE cf a δ S1 λx S2=>wOpt (zbF S2 x f v) λS3=>wS r δ S3 Q|.ifS c t u r=>wT cf c δ S λk S1=>wIf k (wS t δ S1 λf S2=>(match f with|.nx δ'=>wS r δ' S2 Q|.rt d=>Q (.rt d) S2)) (wS u δ S1 λf S2=>(match f with|.nx δ'=>wS r δ' S2 Q|.rt d=>Q (.rt d) S2))|.forS g l b r=>wL cf l δ S λq S1=>zhO q.2 S1 (λS2=>zbx g (exS cf b) q.1 δ S2) λf S3=>(match f with|.nx δ'=>wS r δ' S3 Q|.rt d=>Q (.rt d) S3)|.ret e _=>wE cf e δ S λx S1=>Q (.rt x) S1|.expr e r=>wE cf e δ S λ_ S1=>wS r δ S1 Q
end
section
variable{cf:CF}
def W.bnd(h:W o P)(k:∀a S,P a S->W (f a S) Q):W (o.bind f) Q:=by rw[zab];exact h.mono k
def zl6(h:wOpt o k)(q:∀a,k a->W (f a S) Q):W ((lift S o).bind f) Q:=by let⟨a,rfl,g⟩:=zaN h;exact q a g
def ziH(h:wOpt o λa=>Q a S):W (lift S o) Q:=by rw[<-zoS];exact h
def zl7(h:wIsL S x P)(q:P->W o Q):W (if isL S x then o else .bad) Q:=by rw[if_pos (ziJ h).1];exact q (ziJ h).2
def zkR(h:wIf c A B)(a:A->W o Q)(b:B->W u Q):W (if c then o else u) Q:=by cases c with|true=>exact a h|false=>exact b h
def zro{o u:Out α}{f:α->St->Out β}{Q:β->St->Prop}(h:wIf c A B)(a:A->W (o.bind f) Q)(b:B->W (u.bind f) Q):W ((if c then o else u).bind f) Q:=by cases c with|true=>exact a h|false=>exact b h
def zl8(h:wCmp S op x y k)(q:∀b,k b->W (f b S) Q):W ((lift S (cmpD S op x y)).bind f) Q:=by let⟨b,e,h⟩:=ziN h;rw[e];exact q b h
def zoR(h:wSeq S x k)(q:∀b,k b->W (f b S) Q):W ((lift S (zcw S x)).bind f) Q:=by let⟨b,e,h⟩:=ziG h;rw[e];exact q b h
def zl5(h:wOut o Q):W o Q:=by unfold wOut at h;exact h
mutual
theorem wE_W(e:CE){δ:Ev}{S:St}{Q:D->St->Prop}(h:wE cf e δ S Q):W (evE cf e δ S) Q:=by
 cases e with
 |loc i=>
  show W (lift S _) Q;conv at h=>whnf
  split at h;rename_i e;rw[e];exact h;exact h.elim
 |ix a b=>refine W.bnd (wE_W a h) λx S1 h=>W.bnd (wE_W b h) λy S2 h=>?_;let⟨ds,e,h⟩:=ziG h;rw[e];cases y with|int i=>exact ziH h|_=>exact h.elim
 |sl a ml mh lo hi=>
  refine W.bnd (wE_W a h) λx S1 h=>W.bnd (wE_W lo h) λy S2 h=>W.bnd (wE_W hi h) λz S3 h=>?_;cases ey:zbI ml y<;>cases ez:zbI mh z<;>rw[ey,ez]at h<;>try exact h.elim
  cases x with
  |tup=>exact h|fix=>exact zfn h| ref=>let⟨o,e,h⟩:=zaN h;simp![e];cases o<;>first|exact zfn h|exact h.elim
  |_=>exact h.elim
 |slS a b=>
  refine W.bnd (wE_W a h) λx S1 h=>W.bnd (wE_W b h) λy S2 h=>?_;split at h
  . unfold zaT at h;(try dsimp only);rw[if_neg h.1];let⟨o,e,h⟩:=zaN h.2;simp![e];cases o<;>first|exact zfn h|exact h.elim
  unfold zaT at h;(try dsimp only);rw[if_pos h.1];exact h.2;exact h.elim
 |ext a l=>
  refine W.bnd (wE_W a h) λx S1 h=>zl7 h λh=>W.bnd (wL_W l h) λr S2 h=>?_;cases x with
  |ref p=>let⟨o,e,h⟩:=zaN h;simp![e];cases o<;>first|exact zmS h|exact h.elim
  |_=>exact h.elim
 |_=>
  conv at h=>whnf
  first
  |exact h
  |exact h.elim
  |refine W.bnd (wE_W _ h) λ_ _ h=>?_|refine W.bnd (zmT _ h) λ_ _ h=>?_|refine W.bnd (wL_W _ h) λ_ _ h=>?_|refine W.bnd (wT_W _ h) λ_ _ h=>?_
  repeat' first
  |exact h
  |exact h.elim
  |exact zoT h
  |exact zrp h
  |exact zrn h
  |exact zfn h
  |exact zmS h
  |exact zl5 h
  |exact ziH h
  |exact wE_W _ h
  |refine W.bnd (wE_W _ h) λ_ _ h=>?_|refine W.bnd (zmT _ h) λ_ _ h=>?_|refine W.bnd (zl5 h) λ_ _ h=>?_|refine zl8 h λ_ h=>?_|refine zl6 h λ_ h=>?_|refine zbC h λh=>?_|refine zl7 h λh=>?_|refine zkR h (λh=>?_) λh=>?_
  |split at h
theorem zmT(es:CEs){δ:Ev}{S:St}{Q:List D->St->Prop}(h:wEs cf es δ S Q):W (evEs cf es δ S) Q:=by cases es with|nil=>exact h|cons e r=>exact W.bnd (wE_W e h) λ_ _ h=>W.bnd (zmT r h) λ_ _ h=>h
theorem wT_W(e:CE){δ:Ev}{S:St}{Q:Bool->St->Prop}(h:wT cf e δ S Q):W (evT cf e δ S) Q:=by cases e with|cmp op a b=>exact W.bnd (wE_W a h) λ_ _ h=>W.bnd (wE_W b h) λ_ _ h=>zl9 h|cmp2 op op' a b c=>exact W.bnd (wE_W a h) λ_ _ h=>W.bnd (wE_W b h) λ_ _ h=>zl8 h λ_ h=>zkR h (λh=>W.bnd (wE_W c h) λ_ _ h=>zl9 h) λh=>h|nt a=>exact W.bnd (wT_W a h) λ_ _ h=>h|and a b=>exact W.bnd (wT_W a h) λ_ _ h=>zkR h (wT_W b) λh=>h|or a b=>exact W.bnd (wT_W a h) λ_ _ h=>zkR h (λh=>h) (wT_W b)|tst e=>exact W.bnd (wE_W e h) λ_ _ h=>zoQ h|_=>exact h.elim
theorem wL_W(l:CL){δ:Ev}{S:St}{Q:List D×List Nat->St->Prop}(h:wL cf l δ S Q):W (evL cf l δ S) Q:=by
 cases l with
 |val e=>exact W.bnd (wE_W e h) λ_ _ h=>zoR h λ_ h=>h| rng1 a=>refine W.bnd (wE_W a h) λx _ h=>?_;cases x<;>first|exact zbC h λh=>h|exact h.elim
 |rng2 a b=>refine W.bnd (wE_W a h) λx _ h=>W.bnd (wE_W b h) λy _ h=>?_;cases x<;>first|exact h.elim|(cases y<;>first|exact zbC h λh=>h|exact h.elim)
 |enum a=>exact W.bnd (wE_W a h) λ_ _ h=>ziH h|comp n js g it c e=>exact W.bnd (wL_W it h) λ_ _ h=>W.bnd (ziI h) λ_ _ h=>zbC h λh=>h
end
def wS_W(s)(h:wS cf s δ S Q):W (exS cf s δ S) Q:=by
 induction s generalizing δ S Q with
 |nil=>exact h|stop=>exact h.elim|asg i e r hr=>exact W.bnd (wE_W e h) λ_ _ h=>hr h|asgT g e r hr=>exact W.bnd (wE_W e h) λ_ _ h=>zl6 h λ_ h=>hr h|setIx a b e r hr=>exact W.bnd (wE_W e h) λ_ _ h=>W.bnd (wE_W a h) λ_ _ h=>W.bnd (wE_W b h) λ_ _ h=>(zaN h).elim λ_ h=>by rw[h.1];exact hr h.2|setF a f e r hr=>exact W.bnd (wE_W e h) λ_ _ h=>W.bnd (wE_W a h) λ_ _ h=>(zaN h).elim λ_ h=>by rw[h.1];exact hr h.2| ifS c t u r ht hu hr=>
  refine W.bnd (wT_W c h) λ_ _ h=>zro h (λh=>W.bnd (ht h) λf _ h=>?_) λh=>W.bnd (hu h) λf _ h=>?_
  all_goals
   cases f with|nx=>exact hr h|rt=>exact h
 |forS g l b r hb hr=>refine W.bnd (wL_W l h) λ_ _ h=>W.bnd (ziI h) λf _ h=>?_;cases f with|nx=>exact hr h|rt=>exact h
 |ret e=>exact W.bnd (wE_W e h) λ_ _ h=>h|expr e r hr=>exact W.bnd (wE_W e h) λ_ _ h=>hr h
@[irreducible]def wFin(S:St)(r:Fl)(T:St)(Q:D->St->Prop):Prop:=W (fin S r T) Q
def zsn(h:P[f]?=Φ F)(hl:ds.length=F.np)(w:wS (callF P n) F.body (zaR F ds) S.enter λr T=>wFin S r T Q)(hp:F.prim=Ψ:=by rfl):
  W (app (callF P (n+1)) f ds S) Q:=by
 rw[zgm h hl hp,zab];refine(wS_W _ w).mono λr T q=>?_;unfold wFin at q;exact q
def zaM(h:P[f]?=Φ F)(hl:ds.length=F.np)(w:wS (callF P n) F.body (zaR F ds) S.enter λr T=>wFin S r T λa T'=>a=d/\T'=S')(hp:F.prim=Ψ:=by rfl):
 app (callF P (n+1)) f ds S=.ok d S':=W.eq (zsn h hl w hp)
def zag(h:flat S.len d=Δ)(q:Q d S):wFin S (.rt d) T Q:=by unfold wFin;rw[zkq,zir S d T h];exact q
def zfo(hl:S.len<=l)(hg:T.get l=Φ (.lst ds))(h:flats S.len ds=Δ)(q:Q (.ref S.len) (S.push (.lst ds))):wFin S (.rt (.ref l)) T Q:=by
 have h0:flat S.len (.ref l)=Θ:=by simp[flat];omega
 unfold wFin;rw[zkq];unfold zc9;simp![h0,hg,h,if_true,Κ,if_false];exact q
end
structure Frm(S S':St):Prop where
 frz:S'.frz=S.frz
 lk:S'.lk=S.lk
 len:S.new.length<=S'.new.length
 same:∀l∈S.lk,l<S.len->S'.get l=S.get l
def Frm.refl(S):Frm S S:=⟨rfl,rfl,le_refl _,λ_ _ _=>rfl⟩
def Frm.lens(h:Frm S a):S.len<=a.len:=by unfold St.len;rw[h.frz];have:=h.len;lia
def Frm.trans(a:Frm S S1)(b:Frm S1 d):Frm S d:=⟨b.frz.trans a.frz,b.lk.trans a.lk,le_trans a.len b.len,λl c h=>(b.same l (by rw[a.lk];exact c) (lt_of_lt_of_le h a.lens)).trans (a.same l c h)⟩
def Frm.push(S)(o):Frm S (S.push o):=by refine⟨rfl,rfl,by simp[St.push],λl _ h=>?_⟩;unfold St.len at h;unfold St.get St.push;simp only;split;rfl;rw[getElem?_append_left (by omega)]
def Frm.put(h:S.put l o=Φ a):Frm S a:=by
 unfold St.put at h;split at h;exact nS h;split at h;exact nS h;rename_i f b;injection h with h;subst h;refine⟨rfl,rfl,by simp,λm c g=>?_⟩;have d:m≠l:=λe=>by subst e;exact b (by simpa using c)
 unfold St.get;simp only;split;rfl;rw[getElem?_set_ne (by lia)]
def Frm.keep(S T:St):Frm S ⟨S.frz,S.new++T.new,S.lk⟩:=by refine⟨rfl,rfl,by simp,λl _ h=>?_⟩;unfold St.len at h;unfold St.get;simp only;split;rfl;rw[getElem?_append_left (by omega)]
abbrev Fr{α:Type}(S:St)(o:Out α):Prop:=∀a T,o=.ok a T->Frm S T
section
variable{α β:Type}{S T:St}{o:Out α}
def Fr.of(h:Frm S T):Fr S (.ok a T):=λ_ _ e=>by cases e;exact h
def Fr.ok:Fr S (.ok a S):=.of (.refl S)
def Fr.bad:Fr S (.bad:Out α):=λ_ _ e=>by cases e
def Fr.to(h:Frm S T)(k:Fr T o):Fr S o:=λa U e=>h.trans (k a U e)
def Fr.bind(h:Fr S o)(k:∀a T,Fr T (f a T)):Fr S (o.bind f):=by cases o with|ok a T=>exact .to (h a T rfl) (k a T)|_=>exact λ_ _ e=>by cases e
def Fr.w(f:Fr S o)(h:W o Q):W o λa T=>Q a T/\Frm S T:=by cases o with|ok a T=>exact⟨h,f a T rfl⟩|_=>exact h
def Fr.lift{o:Option α}:Fr S (lift S o):=by cases o with|none=>exact .bad|some=>exact .ok
def Fr.lock(h:∀S,Fr S (f S)):Fr S (zbe ls S f):=by unfold zbe;cases e:f {S with lk:=ls++S.lk} with|ok a T=>exact .of (have h:=h _ a T e;⟨h.frz,rfl,h.len,λl b c=>h.same l (mem_append_right _ b) c⟩)|_=>exact λ_ _ e=>by cases e
def zqY:Fr S (lay S ds):=by unfold lay;split;exact .of (.push _ _);exact .bad
def frWr:Fr S (wr S l ds d):=by
 unfold wr
 repeat' first
 |exact .bad
 |exact .of (.put (by assumption))
 |split
def zsd:Fr S (binD S op x y):=by
 unfold binD binI
 repeat' first
 |exact .bad
 |exact .ok
 |exact zqY
 |split
def frBi:Fr S (bi S b ds):=by
 cases b<;>rcases ds with _|⟨x,_|⟨y,_|⟨z,_⟩⟩⟩
 all_goals first
 |exact .bad
 |exact .ok
 |(unfold bi;dsimp only;split<;>first|exact .bad|exact .ok|(split<;>first|exact .bad|exact .ok))
 |(cases x<;>first|exact .bad|exact .ok|(cases y<;>first|exact .bad|exact .ok))
def frMt:Fr S (mt S m x ds):=by
 cases m<;>cases x<;>(try exact .bad)<;>rcases ds with _|⟨y,_|⟨z,_⟩⟩
 all_goals first
 |exact .bad
 |(unfold mt;dsimp only;split<;>first|exact .bad|exact frWr)
 |(cases y<;>first
  |exact .bad
  |(unfold mt;dsimp only;repeat' first
   |exact .bad
   |exact .ok
   |exact frWr
   |split))
def zsc(h:zbF S x f v=Φ T):Frm S T:=by
 unfold zbF at h
 repeat' first
 |exact .put h
 |exact nS h
 |split at h
def zsb(h:dPut S x y v=Φ T):Frm S T:=by
 unfold dPut Option.bind at h
 repeat' first
 |exact .put h
 |exact nS h
 |split at h
 |dsimp only at h
def zom:Fr S (zc9 S d T):=by
 unfold zc9;dsimp only
 repeat' first
 |exact .ok
 |exact .of (.push _ _)
 |exact .of (.keep _ _)
 |split
def zse:Fr S (app cf f ds S):=by unfold app;cases cf f ds S.enter with|ok=>exact zom|_=>exact λ_ _ e=>by cases e
def frC(hc:∀δ S,Fr S (c δ S))(he:∀δ S,Fr S (e δ S))(xs)(δ)(S):Fr S (zaw g c e xs δ S):=by
 induction xs generalizing δ S with
 |nil=>exact .ok| cons x xs ih=>
  unfold zaw
  repeat' first
  |exact .bad
  |exact .ok
  |exact ih _ _
  |exact hc _ _
  |exact he _ _
  |refine Fr.bind ?_ λ_ _=>?_
  |split
def frF(hb:∀δ S,Fr S (b δ S))(xs)(δ)(S):Fr S (zbx g b xs δ S):=by
 induction xs generalizing δ S with
 |nil=>exact .ok| cons x xs ih=>
  unfold zbx
  repeat' first
  |exact .bad
  |exact .ok
  |exact ih _ _
  |exact hb _ _
  |refine Fr.bind ?_ λ_ _=>?_
  |split
end
abbrev CFok(cf:CF):Prop:=∀f ds S d T,cf f ds S=.ok d T->Frm S T
section
variable{cf:CF}(hcf:CFok cf)
include hcf
def frW{f:Nat}{ds:List D}{S:St}:Fr S (appW cf f ds S):=by unfold appW;exact hcf f ds S
mutual
theorem frE(e:CE)(δ:Ev)(S:St):Fr S (evE cf e δ S):=by
 cases e
 all_goals
  first
  |exact .ok
  |exact .bad
  |exact .lift
  |exact .of (.push _ _)
  |refine Fr.bind ?_ λ_ _=>?_
 all_goals
  repeat' first
  |exact .ok
  |exact .bad
  |exact .lift
  |exact frE _ _ _
  |exact frEs _ _ _
  |exact frT _ _ _
  |exact frL _ _ _
  |exact zsd
  |exact frBi
  |exact frMt
  |exact zqY
  |exact frWr
  |exact zse
  |exact frW hcf
  |exact .to (.push _ _) (frW hcf)
  |refine Fr.bind ?_ λ_ _=>?_
  |split
theorem frEs(e:CEs)(δ:Ev)(S:St):Fr S (evEs cf e δ S):=by cases e with|nil=>exact .ok|cons e r=>exact .bind (frE e δ S) λ_ T=>.bind (frEs r δ T) λ_ _=>.ok
theorem frT(e:CE)(δ:Ev)(S:St):Fr S (evT cf e δ S):=by
 cases e
 all_goals
  first
  |exact .bad
  |refine Fr.bind ?_ λ_ _=>?_
 all_goals
  repeat' first
  |exact .ok
  |exact .lift
  |exact frE _ _ _
  |exact frT _ _ _
  |refine Fr.bind ?_ λ_ _=>?_
  |split
theorem frL(e:CL)(δ:Ev)(S:St):Fr S (evL cf e δ S):=by
 cases e
 all_goals
  refine Fr.bind ?_ λ_ _=>?_
  all_goals
   repeat' first
   |exact .ok
   |exact .bad
   |exact .lift
   |exact frE _ _ _
   |exact frL _ _ _
   |exact .lock λ_=>frC (λδ S=>frT _ δ S) (λδ S=>frE _ δ S) _ _ _|refine Fr.bind ?_ λ_ _=>?_
   |split
end
def frS(s:CS)(δ:Ev)(S:St):Fr S (exS cf s δ S):=by
 cases s
 all_goals
  first
  |exact .ok
  |exact .bad
  |refine Fr.bind ?_ λ_ _=>?_
 all_goals
  repeat' first
  |exact .ok
  |exact .bad
  |exact .lift
  |exact frE hcf _ _ _
  |exact frT hcf _ _ _
  |exact frL hcf _ _ _
  |exact frS _ _ _
  |exact .to (zsb (by assumption)) (frS _ _ _)
  |exact .to (zsc (by assumption)) (frS _ _ _)
  |exact .lock λ_=>frF (λδ S=>frS _ δ S) _ _ _|refine Fr.bind ?_ λ_ _=>?_
  |split
end
end R
namespace R
open PySem L2
abbrev KL(K:Frag)(a:Addr)(xs:List V):Prop:=∃(o:Obj) (its:Array Ω) (n:Nat),K.lookup a=Φ o/\o.cls=.type "list"/\o.dict=Ψ/\o.data=.seq its n/\its.size<=sizeLine/\Vals xs its.toList
abbrev FixL(K:Frag)(H:Hp)(a:Addr)(xs:List V):Prop:=(∃o,H a=Φ (.frz o (.lst xs)))\/KL K a xs
def FixL.sq(h:FixL K H a xs):SqL K H a xs:=h.elim (λz=>(by let⟨o,e⟩:=z;exact .inl (.inr ⟨o,e⟩))) .inr
class Mks where
 ts:List (Addr×Str)
 cl:List Addr
variable[Mks]
abbrev TabIn(H:Hp)(P:Addr)(q:Str):Prop:=∃ps:Array Ω,H P=Φ (.tbl ps)/\TriplesOk ps.toList/\
 ∀(pos:Pos)(v:Ω),codeAmong pos ps.toList=Φ v->∃(c:Addr) (oc:Obj) (vs:Array Ω) (t:Tok),v=.ref c/\H c=Φ (.frz oc (.own 0))/\oc.data=.fields vs/\vs[1]?=Φ (.str q t)
def TabIn.up(t:TabIn H P q)(e:H' P=H P)(f:∀b o u,H b=Φ (.frz o u)->H' b=Φ (.frz o u)):TabIn H' P q:=by let⟨a,d,g,h⟩:=t;refine⟨a,by rw[e];exact d,g,λpos v i=>?_⟩;let⟨c,j,k,t,l,m,n⟩:=h pos v i;exact⟨c,j,k,t,l,f _ _ _ m,n⟩
abbrev TB(H:Hp):Prop:=∀p∈Mks.ts,TabIn H p.1 p.2
structure Kp(H H':Hp):Prop where
 tups:Tups H H'
 frzs:∀b o u,H b=Φ (.frz o u)->H' b=Φ (.frz o u)
 tab:TB H->TB H'
def Kp.refl(H):Kp H H:=⟨Tups.refl H,λ_ _ _ h=>h,λh=>h⟩
def Kp.trans(a:Kp H d)(b:Kp d e):Kp H e:=⟨a.tups.trans b.tups,λc o u h=>b.frzs c o u (a.frzs c o u h),λh=>b.tab (a.tab h)⟩
def Kp.same(a:Tups H H')(b:∀b o u,H b=Φ (.frz o u)->H' b=Φ (.frz o u))(c:∀P ps,H P=Φ (.tbl ps)->H' P=Φ (.tbl ps)):Kp H H':=⟨a,b,λh p d=>by let⟨ps,e,_⟩:=id (h p d);exact(h p d).up ((c _ _ e).trans e.symm) b⟩
def FixL.kp(h:FixL K H a xs)(k:Kp H H'):FixL K H' a xs:=h.elim (λz=>(by let⟨o,e⟩:=z;exact .inl ⟨o,k.frzs _ _ _ e⟩)) .inr
mutual
noncomputable def RV(K:Frag)(ι:List Addr)(H:Hp):D->V->Prop
 |.non,v=>v=.non|.bl b,v=>v=.bl b|.int i,v=>v=.int i|.str x,v=>v=.str x|.tup ds,v=>∃a xs,v=.ref a/\H a=Φ (.tup xs)/\RVs K ι H ds xs|.ref l,v=>∃a,ι[l]?=Φ a/\v=.ref a|.fix ds,v=>∃a xs,v=.ref a/\FixL K H a xs/\RVs K ι H ds xs
noncomputable def RVs(K:Frag)(ι:List Addr)(H:Hp):List D->List V->Prop
 | [],vs=>vs=[]|d::ds,vs=>∃v r,vs=v::r/\RV K ι H d v/\RVs K ι H ds r
end
abbrev R3s(K:Frag)(ι:List Addr)(H:Hp):List (K3×D)->List (K3×Addr×V)->Prop
 | [],ws=>ws=[]|(k,d)::r,ws=>∃c v w,ws=(k,c,v)::w/\Key3 H k c/\RV K ι H d v/\R3s K ι H r w
abbrev RFs(K:Frag)(ι:List Addr)(H:Hp):List (Str×D)->List (Str×V)->Prop
 | [],ws=>ws=[]|(f,d)::r,ws=>∃v w,ws=(f,v)::w/\RV K ι H d v/\RFs K ι H r w
abbrev RO(K:Frag)(ι:List Addr)(H:Hp)(a:Addr):MO->Prop
 |.lst ds=>∃xs,H a=Φ (.lst xs)/\RVs K ι H ds xs|.ins c fs=>∃C dx ws,Mks.cl[c]?=Φ C/\H a=Φ (.ins C dx ws)/\RFs K ι H fs ws|.d3 kvs=>(kvs.map (·.1)).Nodup/\∃ws,H a=Φ (.ext (TriO a ws))/\R3s K ι H kvs ws
structure RH(K:Frag)(ι:List Addr)(H:Hp)(S:St):Prop where
 len:ι.length=S.len
 nd:ι.Nodup
 obj:∀l o,S.get l=Φ o->∃a,ι[l]?=Φ a/\RO K ι H a o
 tab:TB H
structure Ext(ι:List Addr)(H:Hp)(ι':List Addr)(H':Hp):Prop where
 pre:ι <+: ι'
 kp:Kp H H'
 rest:∀a o,a∉ι->H a=Φ o->(H' a=Φ o\/((∃ps,o=.tbl ps)/\∃ps,H' a=Φ (.tbl ps)))/\a∉ι'
def Ext.refl(ι)(H):Ext ι H ι H:=⟨prefix_refl _,Kp.refl H,λa o h e=>⟨.inl e,h⟩⟩
def Ext.trans(a:Ext ι H f j)(b:Ext f j g k):Ext ι H g k:=⟨a.pre.trans b.pre,a.kp.trans b.kp,λx o h e=>by let⟨c,i⟩:=a.rest x o h e;rcases c with c|⟨t,l,c⟩;exact b.rest x o i c;let⟨d,m⟩:=b.rest x _ i c;refine⟨.inr ⟨t,?_⟩,m⟩;rcases d with d|⟨_,d⟩;exact⟨l,d⟩;exact d⟩
def Ext.keep(x:Ext ι H b c)(h:a∉ι)(e:H a=Φ o)(n:∀ps,o≠.tbl ps):c a=Φ o:=(x.rest a o h e).1.elim id λk=>(by let⟨⟨ps,z⟩,_⟩:=k;exact absurd z (n ps))
def zck(h:ι <+: ι'){l:Nat}{a:Addr}(e:ι[l]?=Φ a):ι'[l]?=Φ a:=by let⟨t,rfl⟩:=h;rw[getElem?_append_left (Ζ.mp e).1];exact e
mutual
theorem RV.up{K:Frag}{ι ι':List Addr}{H H':Hp}(hp:ι <+: ι')(hk:Kp H H'):∀{d:D}{v:V},RV K ι H d v->RV K ι' H' d v
 |.non,_,r=>r|.bl _,_,r=>r|.int _,_,r=>r|.str _,_,r=>r| .tup ds,_,r=>by let⟨a,xs,e,ha,q⟩:=r;exact⟨a,xs,e,hk.tups _ _ ha,RVs.up hp hk q⟩| .ref l,_,r=>by let⟨a,e,q⟩:=r;exact⟨a,zck hp e,q⟩| .fix ds,_,r=>by let⟨a,xs,e,ha,q⟩:=r;exact⟨a,xs,e,ha.kp hk,RVs.up hp hk q⟩
theorem RVs.up{K:Frag}{ι ι':List Addr}{H H':Hp}(hp:ι <+: ι')(hk:Kp H H'):∀{ds:List D}{vs:List V},RVs K ι H ds vs->RVs K ι' H' ds vs
 | [],_,r=>r| d::ds,vs,r=>by let⟨v,w,e,r1,r2⟩:=r;exact⟨v,w,e,RV.up hp hk r1,RVs.up hp hk r2⟩
end
def R3s.up(hp:ι <+: ι')(hk:Kp H H'):∀{kvs:List (K3×D)}{ws:List (K3×Addr×V)},R3s K ι H kvs ws->R3s K ι' H' kvs ws
 | [],_,r=>r| (k,d)::kvs,ws,r=>by let⟨c,v,w,e,r0,r1,r2⟩:=r;exact⟨c,v,w,e,r0.up hk.tups,RV.up hp hk r1,R3s.up hp hk r2⟩
def R3s.length:∀{kvs:List (K3×D)}{ws:List (K3×Addr×V)},R3s K ι H kvs ws->ws.length=kvs.length
 | [],_,r=>by rw[show _=[] from r];rfl| (k,d)::kvs,ws,r=>by let⟨c,v,w,rfl,_,_,r2⟩:=r;simp[R3s.length r2]
def R3s.keys:∀{kvs:List (K3×D)}{ws:List (K3×Addr×V)},R3s K ι H kvs ws->ws.map (·.1)=kvs.map (·.1)
 | [],_,r=>by rw[show _=[] from r];rfl| (k,d)::kvs,ws,r=>by let⟨c,v,w,rfl,_,_,r2⟩:=r;simp[R3s.keys r2]
def R3s.triK:∀{kvs:List (K3×D)}{ws:List (K3×Addr×V)},R3s K ι H kvs ws->TriK H ws
 | [],_,r=>by rw[show _=[] from r];intro x hx;cases hx
 |(k,d)::kvs,ws,r=>by let⟨c,v,w,rfl,r0,_,r2⟩:=r;intro x hx;rcases mem_cons.mp hx with e|e;subst e;exact r0;exact R3s.triK r2 x e
def R3s.put(q:RV K ι H d v)(hc:Key3 H k c)(r:R3s K ι H kvs ws):R3s K ι H (zeS kvs k d) (put3 ws k c v):=by
 unfold zeS put3;rw[r.keys];split;rename_i hm;clear hm;induction kvs generalizing ws with|nil=>rw[show ws=[] from r];rfl| cons x kvs ih=>let⟨j,e⟩:=x;let⟨c',u,w,rfl,r0,r1,r2⟩:=r;rw[ϊ,ϊ];by_cases z:j=k;rw[if_pos z,if_pos z];exact⟨c',v,_,rfl,r0,q,ih r2⟩;rw[if_neg z,if_neg z];exact⟨c',u,_,rfl,r0,r1,ih r2⟩
 rename_i hm;clear hm;induction kvs generalizing ws with|nil=>rw[show ws=[] from r];exact⟨c,v,[],rfl,hc,q,rfl⟩| cons x kvs ih=>let⟨j,e⟩:=x;let⟨c',u,w,rfl,r0,r1,r2⟩:=r;exact⟨c',u,_,rfl,r0,r1,ih r2⟩
def zgI(h:(kvs.map (·.1)).Nodup):((zeS kvs k d).map (·.1)).Nodup:=by unfold zeS;split;rw[map_map,show((λx:K3×D=>x.1)∘λx=>if x.1=k then(x.1,d) else x)=λx=>x.1 from by funext x;show(if x.1=k then(x.1,d) else x).1=x.1;split<;>rfl];exact h;rename_i n;rw[map_append,nodup_append];refine⟨h,by simp,λa ha b hb=>?_⟩;simp![ϊ,map_nil,mem_singleton]at hb;subst hb;exact λz=>n (z▸ha)
def RFs.up(b:ι <+: a)(hk:Kp H H'):∀{c:List (Str×D)}{ws:List (Str×V)},RFs K ι H c ws->RFs K a H' c ws
 | [],_,h=>h| (f,d)::r,_,h=>by let⟨v,w,e,g,i⟩:=h;exact⟨v,w,e,RV.up b hk g,RFs.up b hk i⟩
def RFs.length:∀{a:List (Str×D)}{ws:List (Str×V)},RFs K ι H a ws->ws.length=a.length
 | [],_,h=>by cases(show _=[] from h);rfl| (f,d)::r,_,h=>by let⟨v,w,rfl,c,b⟩:=h;simp[RFs.length b]
def RFs.look(f):∀{a:List (Str×D)}{ws:List (Str×V)},RFs K ι H a ws->(a.lookup f=Ψ/\ws.lookup f=Ψ)\/∃d v,a.lookup f=Φ d/\ws.lookup f=Φ v/\RV K ι H d v
 | [],_,h=>by cases(show _=[] from h);exact .inl ⟨rfl,rfl⟩| (g,d)::r,_,h=>by
  let⟨v,w,rfl,b,e⟩:=h;by_cases c:(f==g)=Δ;exact .inr ⟨d,v,by simp![List.lookup,c],by simp![List.lookup,c],b⟩;have c:(f==g)=Θ:=by simpa using c
  simp![List.lookup,c];exact RFs.look f e
def RFs.put(f)(q:RV K ι H d v):∀{a:List (Str×D)}{ws:List (Str×V)},RFs K ι H a ws->RFs K ι H (zjm f d a) (putF f v ws)
 | [],_,h=>by cases(show _=[] from h);exact⟨v,[],rfl,q,rfl⟩| (g,x)::r,_,h=>by let⟨u,w,rfl,e,b⟩:=h;unfold zjm putF;by_cases c:g=f;rw[if_pos c,if_pos c];exact⟨v,w,rfl,q,b⟩;rw[if_neg c,if_neg c];exact⟨u,_,rfl,e,RFs.put f q b⟩
def RV.ext(h:Ext ι H ι' H')(r:RV K ι H d v):RV K ι' H' d v:=r.up h.pre h.kp
def RVs.ext(h:Ext ι H ι' H')(r:RVs K ι H ds vs):RVs K ι' H' ds vs:=r.up h.pre h.kp
def RVs.length:∀{ds:List D}{vs:List V},RVs K ι H ds vs->vs.length=ds.length
 | [],_,r=>by rw[show _=[] from r];rfl| d::ds,vs,r=>by let⟨v,w,rfl,_,a⟩:=r;simp[RVs.length a]
def RVs.get:∀{ds:List D}{vs:List V}{i:Nat}{d:D},RVs K ι H ds vs->ds[i]?=Φ d->∃v,vs[i]?=Φ v/\RV K ι H d v
 | [],_,_,_,_,e=>by simp at e| d::ds,vs,0,a,r,e=>by let⟨v,w,rfl,b,_⟩:=r;simp at e;subst e;exact⟨v,rfl,b⟩| d::ds,vs,i+1,a,r,e=>by let⟨v,w,rfl,_,c⟩:=r;let⟨u,f,g⟩:=RVs.get (i:=i) (d:=a) c (by simpa using e);exact⟨u,by simpa using f,g⟩
def RVs.get'{i:Nat}(r:RVs K ι H ds vs)(e:vs[i]?=Φ v):∃d,ds[i]?=Φ d/\RV K ι H d v:=by
 have a:i<ds.length:=by rw[<-r.length];exact(Ζ.mp e).1
 let⟨u,b,c⟩:=r.get (Η a);rw[e]at b;cases b;exact⟨_,Η a,c⟩
def RVs.append:∀{ds es:List D}{vs us:List V},RVs K ι H ds vs->RVs K ι H es us->RVs K ι H (ds++es) (vs++us)
 | [],_,_,_,r,q=>by rw[show _=[] from r];exact q| d::ds,es,vs,us,r,q=>by let⟨v,w,rfl,a,b⟩:=r;exact⟨v,w++us,rfl,a,RVs.append b q⟩
def RVs.take:∀{ds:List D}{vs:List V}(n:Nat),RVs K ι H ds vs->RVs K ι H (ds.take n) (vs.take n)
 |_,_,0,_=>rfl| [],_,n+1,r=>by rw[show _=[] from r];rfl| d::ds,vs,n+1,r=>by let⟨v,w,rfl,a,b⟩:=r;exact⟨v,w.take n,rfl,a,RVs.take n b⟩
def RVs.drop:∀{ds:List D}{vs:List V}(n:Nat),RVs K ι H ds vs->RVs K ι H (ds.drop n) (vs.drop n)
 |_,_,0,r=>r| [],_,n+1,r=>by rw[show _=[] from r];rfl| d::ds,vs,n+1,r=>by let⟨v,w,rfl,b,a⟩:=r;exact RVs.drop n a
def RVs.set(q:RV K ι H d v):∀{ds:List D}{vs:List V}(n:Nat),RVs K ι H ds vs->RVs K ι H (ds.set n d) (vs.set n v)
 | [],_,n,r=>by rw[show _=[] from r];rfl| _::ds,vs,0,r=>by let⟨_,w,rfl,r1,r2⟩:=r;exact⟨v,w,rfl,q,r2⟩| _::ds,vs,n+1,r=>by let⟨u,w,rfl,r1,r2⟩:=r;exact⟨u,w.set n v,rfl,r1,RVs.set q n r2⟩
def RVs.erase(n)(r:RVs K ι H ds vs):RVs K ι H (ds.eraseIdx n) (vs.eraseIdx n):=by rw[List.eraseIdx_eq_take_drop_succ,List.eraseIdx_eq_take_drop_succ];exact(r.take n).append (r.drop (n+1))
def RVs.cons_iff:RVs K ι H (d::ds) (v::vs)↔RV K ι H d v/\RVs K ι H ds vs:=by constructor;rintro⟨v',r,e,h1,h2⟩;cases e;exact⟨h1,h2⟩;rintro⟨h1,h2⟩;exact⟨v,vs,rfl,h1,h2⟩
def RVs.ints:∀ns:List Int,RVs K ι H (ns.map D.int) (ns.map V.int)
 | []=>rfl|n::ns=>⟨_,_,rfl,rfl,RVs.ints ns⟩
def RVs.ints_eq:∀{ns:List Int}{vs:List V},RVs K ι H (ns.map D.int) vs->vs=ns.map V.int
 | [],_,h=>h| n::ns,vs,h=>by let⟨v,r,rfl,a,b⟩:=h;rw[RVs.ints_eq b,show v=.int n from a];rfl
def zcD:∀{ds:List D}{ns:List Int},zaI ds=Φ ns->ds=ns.map D.int:=by
 intro ds;unfold zaI;induction ds with
 |nil=>intro ns h;simp at h;subst h;rfl| cons d ds ih=>
  intro ns h;rw[mapM_cons]at h;cases d with
  |int i=>cases e:List.mapM zea ds with|none=>rw[e]at h;simp[zea]at h|some ms=>rw[e]at h;simp[zea]at h;subst h;simp[ih e]
  |_=>simp[zea]at h
mutual
theorem RV.flat{K:Frag}{ι:List Addr}{H:Hp}:∀{d:D}{v:V},RV K ι H d v->R.flat ι.length d=Δ
 |.non,_,_=>by simp[R.flat]|.bl _,_,_=>by simp[R.flat]|.int _,_,_=>by simp[R.flat]|.str _,_,_=>by simp[R.flat]| .tup ds,_,r=>by let⟨a,xs,e,ha,q⟩:=r;simp![R.flat];exact RVs.flats q| .ref l,_,r=>by let⟨a,e,q⟩:=r;simp![R.flat,decide_eq_true_eq];exact(Ζ.mp e).1| .fix ds,_,r=>by let⟨a,xs,e,ha,q⟩:=r;simp![R.flat];exact RVs.flats q
theorem RVs.flats{K:Frag}{ι:List Addr}{H:Hp}:∀{ds:List D}{vs:List V},RVs K ι H ds vs->R.flats ι.length ds=Δ
 | [],_,_=>by simp[R.flats]| d::ds,vs,r=>by let⟨v,w,e,r1,r2⟩:=r;simp![R.flats,Β];exact⟨RV.flat r1,RVs.flats r2⟩
end
mutual
theorem RV.restrict{K:Frag}{ι ι':List Addr}{H:Hp}(hp:ι <+: ι'):∀{d:D}{v:V},R.flat ι.length d=Δ->RV K ι' H d v->RV K ι H d v
 |.non,_,_,r=>r|.bl _,_,_,r=>r|.int _,_,_,r=>r|.str _,_,_,r=>r| .tup ds,_,f,r=>by let⟨a,xs,e,ha,q⟩:=r;simp![R.flat]at f;exact⟨a,xs,e,ha,RVs.restrict hp f q⟩| .ref l,_,f,r=>by let⟨a,e,q⟩:=r;simp![R.flat,decide_eq_true_eq]at f;refine⟨a,?_,q⟩;let⟨t,rfl⟩:=hp;rw[getElem?_append_left f]at e;exact e| .fix ds,_,f,r=>by let⟨a,xs,e,ha,q⟩:=r;simp![R.flat]at f;exact⟨a,xs,e,ha,RVs.restrict hp f q⟩
theorem RVs.restrict{K:Frag}{ι ι':List Addr}{H:Hp}(hp:ι <+: ι'):∀{ds:List D}{vs:List V},R.flats ι.length ds=Δ->RVs K ι' H ds vs->RVs K ι H ds vs
 | [],_,_,r=>r| d::ds,vs,f,r=>by let⟨v,w,e,r1,r2⟩:=r;simp![R.flats,Β]at f;exact⟨v,w,e,RV.restrict hp f.1 r1,RVs.restrict hp f.2 r2⟩
end
def R3s.flats:∀{kvs:List (K3×D)}{ws:List (K3×Addr×V)},R3s K ι H kvs ws->R.flats ι.length (kvs.map (·.2))=Δ
 | [],_,_=>by simp[R.flats]| (k,d)::kvs,ws,r=>by let⟨c,v,w,e,_,r1,r2⟩:=r;simp![ϊ,R.flats,Β];exact⟨RV.flat r1,R3s.flats r2⟩
def R3s.restrict(hp:ι <+: ι'):∀{kvs:List (K3×D)}{ws:List (K3×Addr×V)},R.flats ι.length (kvs.map (·.2))=Δ->R3s K ι' H kvs ws->R3s K ι H kvs ws
 | [],_,_,r=>r| (k,d)::kvs,ws,f,r=>by let⟨c,v,w,e,r0,r1,r2⟩:=r;simp![ϊ,R.flats,Β]at f;exact⟨c,v,w,e,r0,RV.restrict hp f.1 r1,R3s.restrict hp f.2 r2⟩
def RFs.flats:∀{a:List (Str×D)}{ws:List (Str×V)},RFs K ι H a ws->R.flats ι.length (a.map (·.2))=Δ
 | [],_,_=>by simp| (f,d)::r,_,h=>by let⟨v,w,_,b,c⟩:=h;simp![ϊ,zeq,Β];exact⟨RV.flat b,RFs.flats c⟩
def RFs.restrict(g:ι <+: a):∀{b:List (Str×D)}{ws:List (Str×V)},R.flats ι.length (b.map (·.2))=Δ->RFs K a H b ws->RFs K ι H b ws
 | [],_,_,h=>h| (f,d)::r,_,c,h=>by let⟨v,w,e,i,j⟩:=h;simp![ϊ,zeq,Β]at c;exact⟨v,w,e,RV.restrict g c.1 i,RFs.restrict g c.2 j⟩
def RO.up(h:RO K ι H a o)(hp:ι <+: ι')(hk:Kp H H')(e:H' a=H a):RO K ι' H' a o:=by cases o with|lst ds=>let⟨xs,h1,h2⟩:=h;exact⟨xs,e.trans h1,h2.up hp hk⟩|ins c fs=>let⟨C,dx,ws,h0,h1,h2⟩:=h;exact⟨C,dx,ws,h0,e.trans h1,h2.up hp hk⟩|d3 kvs=>let⟨h0,ws,h1,h2⟩:=h;exact⟨h0,ws,e.trans h1,h2.up hp hk⟩
def RO.stay(h:RO K ι H a o)(x:Ext ι H ι' H')(e:H' a=H a):RO K ι' H' a o:=h.up x.pre x.kp e
section
variable{K:Frag}{ι ι':List Addr}{H H':Hp}{S S' T:St}{l:Nat}{a p:Addr}
def RH.mem(h:RH K ι H S)(e:S.get l=Φ o):∃a,ι[l]?=Φ a/\RO K ι H a o/\a∈ι:=by let⟨a,b,c⟩:=h.obj l o e;exact⟨a,b,c,mem_of_getElem? b⟩
def zlO(h:l<S.len):∃o,S.get l=Φ o:=by unfold St.len at h;unfold St.get;split;rename_i c;exact⟨_,Η c⟩;exact⟨_,Η (by omega)⟩
def RH.off(h:RH K ι H S)(x:Ext ι H ι H')(e:∀a∈ι,H' a=H a):RH K ι H' S:=⟨h.len,h.nd,λl o q=>let ⟨a,b,c,d⟩:=h.mem q;⟨a,b,c.stay x (e a d)⟩,x.kp.tab h.tab⟩
def RH.live(h:RH K ι H S)(ha:a∈ι):∃o,H a=Φ o/\(∀xs,o≠.tup xs)/\(∀z u,o≠.frz z u)/\∀ps,o≠.tbl ps:=by
 let⟨l,hl⟩:=List.mem_iff_getElem?.mp ha;have hlt:l<S.len:=by rw[<-h.len];exact(Ζ.mp hl).1
 let⟨o,e⟩:=zlO hlt;let⟨b,h1,h2⟩:=h.obj l o e;rw[hl]at h1;cases h1;cases o with|lst ds=>let⟨xs,q,_⟩:=h2;exact⟨_,q,⟨λ_ z=>(by cases z),λ_ _ z=>(by cases z),λ_ z=>(by cases z)⟩⟩|ins c fs=>let⟨C,dx,ws,_,q,_⟩:=h2;exact⟨_,q,⟨λ_ z=>(by cases z),λ_ _ z=>(by cases z),λ_ z=>(by cases z)⟩⟩|d3 kvs=>let⟨_,ws,q,_⟩:=h2;exact⟨_,q,⟨λ_ z=>(by cases z),λ_ _ z=>(by cases z),λ_ z=>(by cases z)⟩⟩
def RH.fresh(h:RH K ι H S)(b:H p=Option.none):p∉ι:=λc=>by let⟨o,e,_⟩:=h.live c;rw[b]at e;exact nS e
def RH.notup(h:RH K ι H S)(b:H p=Φ (.tup xs)):p∉ι:=λc=>by let⟨o,e,q,_⟩:=h.live c;rw[b]at e;cases e;exact q _ rfl
def Kp.new(c:H p=Option.none)(o):Kp H (upd H p o):=.same (Tups.upd_new c) (λb z u e=>by rw[zai (zav e c)];exact e) λb d e=>by rw[zai (zav e c)];exact e
def Ext.new(b:H p=Option.none)(o):Ext ι H ι (upd H p o):=⟨prefix_refl _,Kp.new b o,λa u h e=>⟨.inl (by rw[zai (zav e b)];exact e),h⟩⟩
def RH.new(h:RH K ι H S)(b:H p=Option.none)(o):RH K ι (upd H p o) S:=h.off (Ext.new b o) λa c=>zai λe=>h.fresh b (e▸c)
def zhA(S:St)(o):(S.push o).get S.len=Φ o:=by
 have h:¬S.len<S.frz.length:=by unfold St.len;lia
 unfold St.get St.push;simp![h,if_false];unfold St.len;simp
def zdN(h:l<S.len):(S.push o).get l=S.get l:=by unfold St.len at h;unfold St.get St.push;simp only;split;rfl;rw[getElem?_append_left (by lia)]
def zdb(S:St)(o):(S.push o).len=S.len+1:=by simp[St.push,St.len];lia
def Ext.obj(h:RH K ι H S)(b:H p=Option.none)(u):Ext ι H (ι++[p]) (upd H p u):=
 ⟨prefix_append _ _,Kp.new b u,λa o c e=>⟨.inl (by rw[zai (zav e b)];exact e),by
  intro z;rcases mem_append.mp z with z|z;exact c z;simp at z;exact zav e b z⟩⟩
def RH.obj'(h:RH K ι H S)(hp:H p=Option.none)(u)(o)(ho:RO K (ι++[p]) (upd H p u) p o):RH K (ι++[p]) (upd H p u) (S.push o):=by
 refine⟨by rw[length_append,h.len,zdb];rfl,?_,λl o' e=>?_,(Kp.new hp u).tab h.tab⟩;rw[nodup_append];refine⟨h.nd,by simp,λa ha b hb=>?_⟩;simp at hb;subst hb;exact λz=>h.fresh hp (z▸ha);by_cases hl:l<S.len;rw[zdN hl]at e;let⟨a,h1,h2,hm⟩:=h.mem e;exact⟨a,zck (prefix_append _ _) h1,h2.stay (Ext.obj h hp u) (zai λz=>h.fresh hp (z▸hm))⟩;have hl2:=get_lt e;rw[zdb]at hl2;have:l=S.len:=by lia
 subst this;rw[zhA]at e;cases e;exact⟨p,by rw[<-h.len];simp,ho⟩
def RH.lay(h:RH K ι H S)(b:H p=Option.none)(r:RVs K ι H ds xs):RH K (ι++[p]) (upd H p (.lst xs)) (S.push (.lst ds)):=h.obj' b _ _ ⟨xs,zap,r.ext (Ext.obj h b _)⟩
def RH.last(h:RH K ι H S)(p):(ι++[p])[S.len]?=Φ p:=by rw[<-h.len];simp
def Ext.wr(h:RH K ι H S)(e:S.get l=Φ o)(f:ι[l]?=Φ a)(u):Ext ι H ι (upd H a u):=by have d:=mem_of_getElem? f;refine⟨prefix_refl _,.same (λb g c=>?_) (λb z v c=>?_) λb i c=>?_,λb o c e=>⟨.inl ((zai λ(z:b=a)=>c (by rw[z];exact d)).trans e),c⟩⟩;rw[zai];exact c;rintro rfl;exact h.notup c d;rw[zai];exact c;rintro rfl;let⟨o,e,_,q,_⟩:=h.live d;rw[c]at e;cases e;exact q _ _ rfl;rw[zai];exact c;rintro rfl;let⟨o,e,_,_,q⟩:=h.live d;rw[c]at e;cases e;exact q _ rfl
def znC(e:S.put l o=Φ S'):S'.len=S.len/\(l<S.len->S'.get l=Φ o)/\(∀m,m≠l->S'.get m=S.get m)/\S.frz.length<=l:=by unfold St.put at e;split at e;exact nS e;split at e;exact nS e;injection e with e;subst e;rename_i c1 c2;refine⟨by simp[St.len],λhl=>?_,λm hm=>?_,by lia⟩;unfold St.len at hl;unfold St.get;simp![c1,if_false];rw[getElem?_set_self (by lia)];unfold St.get;simp only;split;rfl;rw[getElem?_set_ne (by lia)]
def RH.wr(h:RH K ι H S)(e:S.get l=Φ o)(hl:ι[l]?=Φ a)(w:S.put l o'=Φ S')(ho:RO K ι (upd H a u) a o'):RH K ι (upd H a u) S':=by let⟨h1,h2,h3,_⟩:=znC w;refine⟨h.len.trans h1.symm,h.nd,λm o2 e2=>?_,(Ext.wr h e hl u).kp.tab h.tab⟩;by_cases hm:m=l;subst hm;rw[h2 (get_lt e)]at e2;cases e2;exact⟨a,hl,ho⟩;rw[h3 m hm]at e2;let⟨b,q1,q2,_⟩:=h.mem e2;refine⟨b,q1,q2.stay (Ext.wr h e hl u) (zai ?_)⟩;rintro rfl;let⟨i1,e1⟩:=Ζ.mp hl;let⟨i2,e2⟩:=Ζ.mp q1;exact hm ((List.getElem_inj h.nd).mp (e2.trans e1.symm))
end
end R
namespace R
open PySem PySem.Spec PyProof.Rows L2
variable[Mks]
def zoy(h:d3K S x=Φ kvs):∃l,x=.ref l/\S.get l=Φ (.d3 kvs):=by
 cases x with
 |ref l=>
  simp![d3K]at h;cases e:S.get l with
  |none=>rw[e]at h;exact nS h
  |some o=>rw[e]at h;cases o with|d3 k=>cases h;exact⟨l,rfl,e⟩|_=>exact nS h
 |_=>exact nS h
def zj5{K}(r:RV K ι H y v)(h:key3 y=Φ k):∃c,v=.ref c/\Key3 H k c:=by
 unfold key3 at h;split at h;rename_i a ds b;cases e:zaI ds with
 |none=>rw[e]at h;exact nS h
 |some p=>rw[e]at h;cases h;let⟨c,xs,rfl,hc,v1,r1,rfl,q1,v2,r2,rfl,q2,v3,r3,rfl,q3,q4⟩:=r;cases(show r3=[] from q4);obtain rfl:v1=.int a:=q1;let⟨b',ys,rfl,hb,rr⟩:=q2;obtain rfl:v3=.int b:=q3;rw[zcD e]at rr;rw[rr.ints_eq]at hb;exact⟨c,rfl,b',hc,hb⟩
 exact nS h
def zhy{K}(hH:RH K ι H S)(hd:RV K ι H d x)(he:RV K ι H e y)(h:zfX S d e=Φ k):
  (∃a kxs kk c,y=.ref a/\H a=Φ (.ext (TriO a kxs))/\TriK H kxs/\x=.ref c/\Key3 H kk c/\k=decide (kk∈kxs.map (·.1)))\/((zcw S e).bind λys=>inD S d ys)=Φ k:=by
 unfold zfX at h;split at h;rename_i kvs e1;left;let⟨l,rfl,g1⟩:=zoy e1;let⟨a,i1,rfl⟩:=he;let⟨a',j1,_,ws,ha,rk⟩:=hH.obj l _ g1;rw[i1]at j1;cases j1;cases ek:key3 d with
 |none=>rw[ek]at h;exact nS h
 |some kk=>rw[ek]at h;cases h;let⟨c,rfl,hc⟩:=zj5 hd ek;exact⟨a,ws,kk,c,rfl,ha,rk.triK,rfl,hc,by dsimp only;rw[rk.keys]⟩
 exact .inr h
abbrev Lf(K:Frag)(ι:List Addr)(H:Hp)(Q:D->R.St->Prop):VK:=λv H'=>∃d ι' S',Ext ι H ι' H'/\RV K ι' H' d v/\RH K ι' H' S'/\Q d S'
section
variable{K:Frag}{ι ι':List Addr}{H H':Hp}{S S':R.St}{Q:D->R.St->Prop}{d:D}{v:V}{p:Addr}
def Lf.of(h:RH K ι H S)(r:RV K ι H d v)(q:Q d S):Lf K ι H Q v H:=⟨d,ι,S,Ext.refl ι H,r,h,q⟩
def Lf.up(x:Ext ι H ι' H')(h:Lf K ι' H' Q v b):Lf K ι H Q v b:=by let⟨d,a,c,e,r⟩:=h;exact⟨d,a,c,x.trans e,r⟩
def Lf.tup(h:RH K ι H S)(a:H p=Option.none){ds:List D}{xs:List V}(r:RVs K ι H ds xs)(q:Q (.tup ds) S):Lf K ι H Q (.ref p) (upd H p (.tup xs)):=⟨.tup ds,ι,S,Ext.new a _,⟨p,xs,rfl,zap,r.ext (Ext.new a _)⟩,h.new a _,q⟩
def Lf.lst(h:RH K ι H S)(a:H p=Option.none){ds:List D}{xs:List V}(r:RVs K ι H ds xs)(q:Q (.ref S.len) (S.push (.lst ds))):Lf K ι H Q (.ref p) (upd H p (.lst xs)):=⟨.ref S.len,ι++[p],S.push (.lst ds),Ext.obj h a _,⟨p,h.last p,rfl⟩,h.lay a r,q⟩
def Lf.wr(h:RH K ι H S)(e:S.get l=Φ o)(b:ι[l]?=Φ a)(w:S.put l (.lst ds)=Φ S')(r:RVs K ι H ds xs)(c:RV K ι H d v)(q:Q d S'):Lf K ι H Q v (upd H a (.lst xs)):=⟨d,ι,S',Ext.wr h e b _,c.ext (Ext.wr h e b _),h.wr e b w ⟨xs,zap,r.ext (Ext.wr h e b _)⟩,q⟩
end
def zcg(h:W (lay S ds) Q):ds.length<=sizeLine/\Q (.ref S.len) (S.push (.lst ds)):=by unfold lay at h;split at h;rename_i c;exact⟨by rw[ϑ];exact c,h⟩;exact h.elim
def zmP(h:W (wr S l ds d) Q):ds.length<=sizeLine/\∃S',S.put l (.lst ds)=Φ S'/\Q d S':=by
 unfold wr at h;split at h;rename_i c;refine⟨by rw[ϑ];exact c,?_⟩;cases e:S.put l (.lst ds) with|none=>rw[e]at h;exact h.elim|some S'=>rw[e]at h;exact⟨S',rfl,h⟩
 exact h.elim
abbrev rD2(K:Frag)(f:R.St->D->D->Out D):R2:=λx y H Qv=>∃ι S d e Qd,RV K ι H d x/\RV K ι H e y/\RH K ι H S/\W (f S d e) Qd/\∀v H',Lf K ι H Qd v H'->Qv v H'
section
variable{X:Cx}
def zlZ{vs ws:List Ω}(ht:IsTup s.heap t vs.toArray)(hb:IsTup s.heap b ws.toArray)(hv:vs=[])(h1:Q (.ref b) s):wpAny (model prog w) A (binaryOp .Add (.ref t) (.ref b)) Q E s:=by
 let⟨⟨cls,dd,data,sl⟩,ho,hc,n,hd⟩:=id ht;let⟨⟨cls2,dd2,data2,sl2⟩,ho2,hc2,n2,hd2⟩:=id hb;simp only at hc hd hc2 hd2;subst hc hd hc2 hd2;exact concat_meets ⟨_,ho,rfl⟩ ⟨_,ho2,rfl⟩ noFill_tuple_add seq_tuple_add PySem.F.slot_tuple_add PySem.F.entry_tuple_add (PySem.F.args_tuple_add_2 _ _)
  (tuple_addW0 t b vs.toArray ws.toArray n n2 dd dd2 sl sl2 (by simp[hv])) ⟨ho,ho2,h1⟩
def zly:OpR X (binaryOp .Add) (λx y H Q=>∃a b ys,x=.ref a/\y=.ref b/\SqT X.K H a []/\SqT X.K H b ys/\Q (.ref b) H):=by intro pins s σ H x y v u Q I rx ry h;let⟨a,b,ys,rfl,rfl,ha,hb,q⟩:=h;cases rx;cases ry;let⟨its,r1,p1,_⟩:=I.tuple ha;let⟨its2,r2,p2,_⟩:=I.tuple hb;exact zlZ p1 p2 (r1.nil_iff.mpr rfl) ⟨.ref b,H,I,rfl,q⟩
def zq7(op):OpR X (binaryOp op) (rD2 X.K λS d e=>binD S op d e):=by
 intro pins s σ H x y v u Qv I rx ry q';let⟨ι,S,d,e,Qd,hd,he,hH,hw,q⟩:=q';dsimp only at hw;unfold binD at hw;split at hw;rename_i i j;obtain rfl:x=.int i:=hd;obtain rfl:y=.int j:=he;have fin:∀k:Int,Qd (.int k) S->Qv (.int k) H:=λk hk=>q _ _ (Lf.of (d:=.int k) hH rfl hk);unfold binI at hw;split at hw;exact zqn pins s σ H _ _ v u Qv I rx ry ⟨i,j,rfl,rfl,fin _ hw⟩;exact zqe pins s σ H _ _ v u Qv I rx ry ⟨i,j,rfl,rfl,fin _ hw⟩;split at hw;rename_i c;refine zqh pins s σ H _ _ v u Qv I rx ry ⟨i,j,rfl,rfl,?_,fin _ hw⟩;unfold zjD at c;rw[Ϯ,decide_eq_true_eq,decide_eq_true_eq]at c;exact c;exact hw.elim;split at hw;rename_i c;exact znS pins s σ H _ _ v u Qv I rx ry ⟨i,j,rfl,rfl,c,fin _ hw⟩;exact hw.elim;split at hw;rename_i c;exact zqi pins s σ H _ _ v u Qv I rx ry ⟨i,j,rfl,rfl,c,fin _ hw⟩;exact hw.elim;split at hw;rename_i c;exact zqf pins s σ H _ _ v u Qv I rx ry ⟨i,j,rfl,rfl,⟨c.1,c.2.1,by omega⟩,fin _ hw⟩;exact hw.elim;exact hw.elim;rename_i xs ys;split at hw;split at hw;rename_i c;let⟨a,us,rfl,ha,r1⟩:=hd;let⟨b,ws,rfl,hb,r2⟩:=he;by_cases hn:us=[];subst hn;have hx:xs=[]:=by have:=r1.length;simpa using this.symm
 subst hx;refine zly pins s σ H _ _ v u Qv I rx ry ⟨a,b,ws,rfl,rfl,SqT.of ha,SqT.of hb,?_⟩;exact q _ _ (Lf.of (d:=.tup ys) hH ⟨b,ws,rfl,hb,r2⟩ (by simpa using hw));refine znT pins s σ H _ _ v u Qv I rx ry ⟨a,b,us,ws,rfl,rfl,SqT.of ha,SqT.of hb,hn,?_,λhy=>?_,λhy p hp=>?_⟩;rw[r1.length,r2.length,ϑ];exact c;subst hy;have hx:ys=[]:=by have:=r2.length;simpa using this.symm
 subst hx;exact q _ _ (Lf.of (d:=.tup xs) hH ⟨a,us,rfl,ha,r1⟩ (by simpa using hw));exact q _ _ (Lf.tup hH hp (r1.append r2) hw);exact hw.elim;exact hw.elim;rename_i a b;split at hw;rename_i xs ys e1 e2;let⟨a1,h1,rfl⟩:=hd;let⟨b1,h2,rfl⟩:=he;let⟨a2,h3,us,ha,r1⟩:=hH.obj _ _ e1;let⟨b2,h4,ws,hb,r2⟩:=hH.obj _ _ e2;rw[h1]at h3;cases h3;rw[h2]at h4;cases h4;let⟨z,hq⟩:=zcg hw;refine zqm pins s σ H _ _ v u Qv I rx ry ⟨a1,b1,us,ws,rfl,rfl,ha,hb,?_,λp hp=>?_⟩;rw[r1.length,r2.length];rw[length_append]at z;exact z;exact q _ _ (Lf.lst hH hp (r1.append r2) hq);exact hw.elim;exact hw.elim
def zaH{α β:Type}{f:α->Option β}{x:α}{xs:List α}{ys:List β}(h:(x::xs).mapM f=Φ ys):∃y r,f x=Φ y/\xs.mapM f=Φ r/\ys=y::r:=by
 rw[mapM_cons]at h;cases e:f x with
 |none=>rw[e]at h;exact nS h
 |some y=>
  rw[e]at h;cases e2:xs.mapM f with
  |none=>rw[e2]at h;exact nS h
  |some r=>rw[e2]at h;injection h with h;exact⟨y,r,rfl,rfl,h.symm⟩
def zic(hH:RH X.K ι H S):∀(n:Nat)(d:D)(pdd:PyData)(v:V),pd S n d=Φ pdd->RV X.K ι H d v->Rep H pdd v/\pdd.canLay0=Δ/\pdd.depth<=n:=by
 intro n;induction n with
 |zero=>
  intro d p v h r;cases d<;>simp![pd]at h
  cases h;exact⟨r,rfl,le_refl _⟩;cases h;exact⟨r,rfl,le_refl _⟩;cases h;exact⟨r,rfl,le_refl _⟩;split at h;rename_i c;cases h;exact⟨r,c,le_refl _⟩;exact nS h
  all_goals exact nS h
 |succ n ih=>
  have all:∀(ds:List D)(ps:List PyData)(vs:List V),ds.mapM (pd S n)=Φ ps->RVs X.K ι H ds vs->RepAll H ps vs/\PyData.canLayAll0 ps=Δ/\PyData.depthAll ps<=n:=by
   intro ds;induction ds with
   |nil=>
    intro ps vs h r;have h:ps=[]:=by simpa using h.symm
    subst h;exact⟨r,rfl,zero_le _⟩
   |cons d ds ihd=>intro ps vs h r;let⟨y,rr,h1,h2,rfl⟩:=zaH h;let⟨v,w,rfl,r1,r2⟩:=r;let⟨a1,a2,a3⟩:=ih d y v h1 r1;let⟨b1,b2,b3⟩:=ihd rr w h2 r2;refine⟨⟨v,w,rfl,a1,b1⟩,by simp[PyData.canLayAll0,a2,b2],?_⟩;simp![PyData.depthAll];lia
  intro d p v h r;cases d with
  |non=>simp![pd]at h;cases h;exact⟨r,rfl,zero_le _⟩|bl b=>simp![pd]at h;cases h;exact⟨r,rfl,zero_le _⟩|int i=>simp![pd]at h;cases h;exact⟨r,rfl,zero_le _⟩| str x=>simp![pd]at h;split at h;rename_i c;cases h;exact⟨r,c,zero_le _⟩;exact nS h
  |tup ds=>
   simp![pd]at h;cases e:ds.mapM (pd S n) with
   |none=>rw[e]at h;exact nS h
   |some ps=>
    rw[e]at h;have h:PyData.tuple ps=p:=by simpa using h
    subst h;let⟨a,xs,rfl,ha,rr⟩:=r;let⟨b1,b2,b3⟩:=all ds ps xs e rr;refine⟨⟨a,xs,rfl,ha,b1⟩,by simp[PyData.canLay0,b2],?_⟩;simp![PyData.depth];lia
  |ref l=>
   simp![pd]at h;split at h;rename_i ds eg;cases e:ds.mapM (pd S n) with
   |none=>rw[e]at h;exact nS h
   |some ps=>
    rw[e]at h;have h:PyData.list ps=p:=by simpa using h
    subst h;let⟨a,h1,rfl⟩:=r;let⟨a2,h2,xs,ha,rr⟩:=hH.obj _ _ eg;rw[h1]at h2;cases h2;let⟨b1,b2,b3⟩:=all ds ps xs e rr;refine⟨⟨a,xs,rfl,ha,b1⟩,by simp[PyData.canLay0,b2],?_⟩;simp![PyData.depth];lia
   exact nS h
  |fix ds=>simp![pd]at h;exact nS h
abbrev rC2(K:Frag)(op:CmpOp):R2:=λx y H Qv=>∃ι S d e k,RV K ι H d x/\RV K ι H e y/\RH K ι H S/\cmpD S op d e=Φ k/\Qv (.bl k) H
def zhF(h:eqD S d e=Φ k):∃a b,pd S 60 d=Φ a/\pd S 60 e=Φ b/\k=PyData.eqv a b:=by
 unfold eqD at h;cases e1:pd S 60 d with
 |none=>rw[e1]at h;exact nS h
 |some a=>
  rw[e1]at h;cases e2:pd S 60 e with
  |none=>rw[e2]at h;exact nS h
  |some b=>rw[e2]at h;injection h with h;exact⟨a,b,rfl,rfl,h.symm⟩
open Classical in
abbrev eqRd(h:Heap)(p:PyData)(u:Ω):Bool:=if c:∃q as,Reads h u q as/\q.canLay0=Δ then PyData.eqv c.choose p else Θ
def zos(r:Reads h u q as)(c:q.canLay0=Δ):eqRd h p u=PyData.eqv q p:=by have ex:∃q as,Reads h u q as/\q.canLay0=Δ:=⟨q,as,r,c⟩;unfold eqRd;rw[dif_pos ex];let⟨as',r',c'⟩:=ex.choose_spec;rw[SeqAt.Reads.unique _ _ _ _ _ c r r']
def zlK(I:Inv X pins σ H s)(hA:A.units+62<cLine)(hH:RH X.K ι H S)(hx:pd S 60 x=Φ px)(rx:RV X.K ι H x vx)(qx:RelV vx ux):
  ∀{ds:List D}{vs:List V}{us:List Ω}{bs:List Bool},RVs X.K ι H ds vs->Vals vs us->ds.mapM (λz=>eqD S z x)=Φ bs->us.any (eqRd s.heap px)=bs.any id/\∀u∈us,SeqAt.EqAt A s u ux (eqRd s.heap px u):=by
 let⟨x1,x2,x3⟩:=zic hH 60 x px vx hx rx;let⟨asx,rdx⟩:=Rep.reads I px vx ux x1 qx;intro ds;induction ds with
 |nil=>
  intro vs us bs r rv h;cases(show vs=[] from r);cases rv;have h:bs=[]:=by simpa using h.symm
  subst h;exact⟨rfl,λu hu=>by cases hu⟩
 |cons d ds ih=>intro vs us bs r rv h;let⟨v,w,rfl,r1,r2⟩:=r;let⟨b,rr,e,h2,rfl⟩:=zaH h;cases rv with| cons q1 q2=>rename_i u us';let⟨a,b',e1,e2,rfl⟩:=zhF e;rw[hx]at e2;cases e2;let⟨p1,p2,p3⟩:=zic hH 60 d a v e1 r1;let⟨as,rd⟩:=Rep.reads I a v u p1 q1;have hq:=zos (p:=px) rd p2;let⟨i1,i2⟩:=ih r2 q2 h2;refine⟨by simp[hq,i1],λz hz=>?_⟩;rcases mem_cons.mp hz with rfl|hz;rw[hq];exact SeqAt.eqAt_reads a px A s z ux as asx rd rdx p2 x2 (by lia);exact i2 z hz
def zmf(hH:RH X.K ι H S)(h:zcw S d=Φ ds)(r:RV X.K ι H d v):∃a xs,v=.ref a/\(SqL X.K H a xs\/SqT X.K H a xs)/\RVs X.K ι H ds xs:=by
 cases d with
 |tup es=>cases h;let⟨a,xs,rfl,ha,rr⟩:=r;exact⟨a,xs,rfl,.inr (SqT.of ha),rr⟩| fix es=>cases h;let⟨a,xs,rfl,ha,rr⟩:=r;exact⟨a,xs,rfl,.inl ha.sq,rr⟩| ref l=>simp![zcw]at h;split at h;rename_i ds' e;cases h;let⟨a,h1,rfl⟩:=r;let⟨a2,h2,xs,ha,rr⟩:=hH.obj _ _ e;rw[h1]at h2;cases h2;exact⟨a,xs,rfl,.inl (SqL.of ha),rr⟩;exact nS h
 |_=>exact nS h
def zqT(h:inD S x ys=Φ k):∃bs,ys.mapM (λz=>eqD S z x)=Φ bs/\k=bs.any id:=by
 unfold inD at h;cases e:ys.mapM (λz=>eqD S z x) with
 |none=>rw[e]at h;exact nS h
 |some bs=>rw[e]at h;injection h with h;exact⟨bs,rfl,h.symm⟩
def zht:∀(as bs:List Int),R.lexLt as bs=HT.lexLt as bs
 | [],[]=>by simp[R.lexLt,HT.lexLt]| [],_::_=>by simp[R.lexLt,HT.lexLt]|_::_,[]=>by simp[R.lexLt,HT.lexLt]|a::as,b::bs=>by simp[R.lexLt,HT.lexLt,zht as bs]
def nonV{K}(hd:RV K ι H d x):decide (x=V.non)=zoe d:=by cases d with|non=>rw[show x=.non from hd];rfl|bl b=>rw[show x=.bl b from hd];rfl|int b=>rw[show x=.int b from hd];rfl|str b=>rw[show x=.str b from hd];rfl|tup b=>let⟨_,_,rfl,_⟩:=hd;rfl|ref b=>let⟨_,_,rfl⟩:=hd;rfl|fix b=>let⟨_,_,rfl,_⟩:=hd;rfl
def zet(hu:X.A.units+128<cLine)(op):OpR X (compareOp op) (rC2 X.K op):=by
 intro pins s σ H x y v u Qv I rx ry q';let⟨ι,S,d,e,k,hd,he,hH,hc,q⟩:=q';unfold cmpD at hc;split at hc;rename_i i j;obtain rfl:x=.int i:=hd;obtain rfl:y=.int j:=he;unfold cmpI at hc;split at hc;cases hc;exact zrV pins s σ H _ _ v u Qv I rx ry ⟨rfl,by simpa using q⟩;cases hc;exact zrQ pins s σ H _ _ v u Qv I rx ry ⟨rfl,by simpa using q⟩;cases hc;exact zrR pins s σ H _ _ v u Qv I rx ry ⟨i,j,rfl,rfl,q⟩;cases hc;exact zrS pins s σ H _ _ v u Qv I rx ry ⟨i,j,rfl,rfl,q⟩;cases hc;exact zrT pins s σ H _ _ v u Qv I rx ry ⟨i,j,rfl,rfl,q⟩;cases hc;exact zrU pins s σ H _ _ v u Qv I rx ry ⟨i,j,rfl,rfl,q⟩;exact nS hc;unfold cmpO at hc;have isin:∀(k:Bool),((zcw S e).bind λys=>inD S d ys)=Φ k->∃a xs,y=.ref a/\(SqL X.K H a xs\/SqT X.K H a xs)/\∃(px:PyData),∀us,Vals xs us->us.any (eqRd s.heap px)=k/\∀z∈us,SeqAt.EqAt X.A.in1 s z v (eqRd s.heap px z):=by
  intro k h;cases es:zcw S e with
  |none=>rw[es]at h;exact nS h
  |some ys=>
   rw[es]at h;let⟨bs,hb,rfl⟩:=zqT (show inD S d ys=Φ k from h);let⟨a,xs,rfl,hq,rr⟩:=zmf hH es he;refine⟨a,xs,rfl,hq,?_⟩;cases hp:pd S 60 d with
   |some px=>exact⟨px,λus hus=>zlK I (show X.A.units+1+62<cLine by lia) hH hp hd rx rr hus hb⟩| none=>
    cases ys with
    |nil=>
     refine⟨.none,λus hus=>?_⟩;cases(show xs=[] from rr);cases hus;have hb:bs=[]:=by simpa using hb.symm
     subst hb;exact⟨rfl,λz hz=>by cases hz⟩
    |cons z zs=>let⟨b,r,h1,_⟩:=zaH hb;let⟨_,_,_,h3,_⟩:=zhF h1;rw[hp]at h3;exact nS h3
 split at hc;let⟨a,b,h1,h2,rfl⟩:=zhF hc;let⟨p1,p2,p3⟩:=zic hH 60 d a x h1 hd;let⟨q1,q2,q3⟩:=zic hH 60 e b y h2 he;exact zql (by lia) pins s σ H x y v u Qv I rx ry ⟨a,b,p1,q1,p2,q2,by lia,q⟩;cases hk:eqD S d e with
 |none=>rw[hk]at hc;exact nS hc
 |some k'=>
  rw[hk]at hc;let⟨a,b,h1,h2,rfl⟩:=zhF hk;let⟨p1,p2,p3⟩:=zic hH 60 d a x h1 hd;let⟨q1,q2,q3⟩:=zic hH 60 e b y h2 he;have hc:k = !PyData.eqv a b:=by simpa using hc.symm
  subst hc;exact zqg (by lia) pins s σ H x y v u Qv I rx ry ⟨a,b,p1,q1,p2,q2,by lia,q⟩
 split at hc;obtain rfl:y=.non:=he;cases hc;obtain rfl:u=Ω.none:=ry;refine is_none_gen ⟨.bl _,H,I,rfl,?_⟩;rw[rx.none_iff,nonV hd];exact q;rename_i b _;split at hc;rename_i a _;cases hc;exact zqk pins s σ H _ _ v u Qv I rx ry ⟨a,b,hd,he,q⟩;exact nS hc;exact nS hc;split at hc;obtain rfl:y=.non:=he;cases hc;obtain rfl:u=Ω.none:=ry;refine isnot_none_gen ⟨.bl _,H,I,rfl,?_⟩;rw[rx.none_iff,nonV hd];exact q;exact nS hc;rcases zhy hH hd he hc with⟨a,kxs,kk,c,rfl,ha,tk,rfl,hk,rfl⟩|hc;cases(show u=Ω.ref a from ry);cases(show v=Ω.ref c from rx);exact zsm (by lia) I ha tk hk λs3 I3=>⟨.bl _,H,I3,rfl,q⟩;let⟨a,xs,rfl,hq,px,hp⟩:=isin _ hc;cases(show u=Ω.ref a from ry);rcases hq with hq|hq;let⟨its,r,pl,hz⟩:=I.list hq;let⟨h1,h2⟩:=hp its r;exact SeqAt.in_listAt (eqRd s.heap px) pl.isList (λw hw=>h2 w (by simpa using hw)) (zam I q (by simpa using h1.symm));let⟨its,r,pl,hz⟩:=I.tuple hq;let⟨h1,h2⟩:=hp its r;exact SeqAt.in_tupleAt (eqRd s.heap px) pl (λw hw=>h2 w (by simpa using hw)) (zam I q (by simpa using h1.symm));cases hk:zfX S d e with
 |none=>rw[hk]at hc;exact nS hc
 |some k'=>
  rw[hk]at hc;have hc:k = !k':=by simpa using hc.symm
  subst hc;rcases zhy hH hd he hk with⟨a,kxs,kk,c,rfl,ha,tk,rfl,h3,rfl⟩|hk;cases(show u=Ω.ref a from ry);cases(show v=Ω.ref c from rx);exact zlW (by lia) I ha tk h3 λs3 I3=>⟨.bl _,H,I3,rfl,q⟩;let⟨a,xs,rfl,hq,px,hp⟩:=isin k' hk;cases(show u=Ω.ref a from ry);rcases hq with hq|hq;let⟨its,r,pl,hz⟩:=I.list hq;let⟨h1,h2⟩:=hp its r;exact SeqAt.notIn_listAt (eqRd s.heap px) pl.isList (λw hw=>h2 w (by simpa using hw)) (zam I q (by simpa using congrArg (!·) h1.symm));let⟨its,r,pl,hz⟩:=I.tuple hq;let⟨h1,h2⟩:=hp its r;exact SeqAt.notIn_tupleAt (eqRd s.heap px) pl (λw hw=>h2 w (by simpa using hw)) (zam I q (by simpa using congrArg (!·) h1.symm))
 split at hc;rename_i xs ys _;cases e1:zaI xs with
 |none=>rw[e1]at hc;exact nS hc
 |some ns=>
  cases e2:zaI ys with
  |none=>rw[e1,e2]at hc;exact nS hc
  |some ms=>
   rw[e1,e2]at hc;have hc:k=lexLt ns ms:=by simpa using hc.symm
   subst hc;let⟨a,us,rfl,ha,r1⟩:=hd;let⟨b,ws,rfl,hb,r2⟩:=he;rw[zcD e1]at r1;rw[zcD e2]at r2;rw[r1.ints_eq]at ha;rw[r2.ints_eq]at hb;exact zqj (by lia) pins s σ H _ _ v u Qv I rx ry ⟨a,b,ns,ms,rfl,rfl,SqT.of ha,SqT.of hb,by rw[<-zht];exact q⟩
 exact nS hc;exact nS hc
end
set_option backward.match.sparseCases false
abbrev zak:Expr->Bool|.Starred _ _=>Θ|_=>Δ
abbrev zbJ:Expr->Bool|.ListComp ..=>Θ|.SetComp ..=>Θ|.DictComp ..=>Θ|_=>Δ
abbrev zeZ:Expr->Bool|.Slice ..=>Θ|_=>Δ
abbrev zaS:Expr->Bool|.Set ..=>Θ|_=>Δ
abbrev zcd:Expr->Bool|.Call (.Name _ _) [] [] _=>Θ|_=>Δ
set_option backward.match.sparseCases true
abbrev zhl:Expr->Bool|.UnaryOp .Not _ _=>Θ|.BoolOp ..=>Θ|.IfExp ..=>Θ|.Compare ..=>Θ|_=>Δ
def zao(h:zak e=Δ)(es)(env):starEach (e::es) env=(Θ,eval e env)::starEach es env:=by cases e<;>first|rfl|exact nB h
def zgq(h:zbJ e=Δ)(t)(l)(env):swapsWith e t l env=pure Θ:=by cases e<;>first|rfl|exact nB h
def zr6(h:zeZ e=Δ):zkP e:=by intro o i;cases e<;>first|rfl|exact nB h
def ze2(h:zaS e=Δ)(op):behindInMarks op e=Θ:=by cases e<;>first|rfl|exact nB h
def zfp(h:zcd e=Δ)(x)(env)(w):attributeBase e x env w=w:=by unfold attributeBase;cases e<;>(try rfl);rename_i f a k _;cases f<;>(try rfl);cases a<;>(try rfl);cases k<;>(try rfl);exact nB h
def zo0(h:zhl e=Δ)(env)(w):isTrue e env w=(do let v <-w;standAt e.pos;holding [v] (truthy v)):=by
 cases e with
 |UnaryOp op x p=>cases op<;>first|rfl|exact nB h
 |_=>first|rfl|exact nB h
def zgS(h:zaS e=Δ)(env)(x):foldedSetIterable e env x=pure x:=by cases e<;>first|rfl|exact nB h
def zbk:∀{es:List Expr},es.all zak=Δ->(backTo pos (starEach es env)).any (·.1)=Θ
 | [],_=>rfl| e::es,h=>by rw[all_cons,Β]at h;rw[zao h.1];exact zbk (es:=es) h.2
abbrev BM(mg:Str->Option Ω)(base:Heap):Prop:=∃(bm:Addr) (o:Obj),mg "__builtins__"=Φ (.ref bm)/\bm≠builtinsNs/\bm≠mainGlobals/\base.get? bm=Φ o/\o.cls=.type "module"/\o.dict=Φ builtinsNs/\o.data=.plain
structure Maker(X:Cx)(c P:Addr):Prop where
 bm:BM X.mg X.base
 code:X.env.code=.ref c
 hd:PySem.W.codeHdIn X.K c P=Δ
 mem:(P,X.env.qual ++ "<lambda>")∈Mks.ts
 one:∀p∈Mks.ts,p.1=P->p.2=X.env.qual ++ "<lambda>"
structure Tab where
 blt:List Str
 cons:List (Str×D)
 fns:List (Str×List Str×Nat)
 cls:List Str:=[]
 flds:List Str:=[]
 mts:List (Nat×Str×Nat):=[]
 inits:List (Nat×Nat×Nat):=[]
 cms:List (Str×Str×Nat):=[]
 isas:List (Str×List Nat):=[]
 lam:List Str:=["lambda"]
 lamP:Nat:=0
abbrev zlI(sc:Scope)(x:Str):Bool:=match sc.names.lookup x with|some .local=>Δ|some .cell=>Δ|some .free=>Δ|_=>Θ
abbrev zfU(sc:Scope)(x:Str):Bool:=match sc.names.lookup x with|some .local=>Δ|some .cell=>Δ|_=>Θ
abbrev isGl(sc:Scope)(x:Str):Bool:=match sc.names.lookup x with|some .globalImplicit=>Δ|_=>Θ
abbrev eqC:D->D->Bool
 |.non,.non=>Δ|.bl a,.bl b=>a==b|.int a,.int b=>a==b|.str a,.str b=>a==b|_,_=>Θ
def zq1:∀{d e:D},eqC d e=Δ->d=e:=by intro d e h;cases d<;>cases e<;>first|rfl|(simp![eqC,beq_iff_eq]at h;subst h;rfl)|exact nB h
abbrev sV:D->V
 |.non=>.non|.bl b=>.bl b|.int i=>.int i|.str x=>.str x|_=>.non
abbrev zno:D->Bool
 |.non=>Δ|.bl _=>Δ|.int _=>Δ|.str _=>Δ|_=>Θ
def zrD{K}(h:zno d=Δ):RV K ι H d (sV d):=by cases d<;>first|rfl|exact nB h
abbrev conB:D->Const->Bool
 |.non,.none=>Δ|.bl a,.bool b=>a==b|.int a,.int b=>a==b|.str a,.str b=>a==b|_,_=>Θ
abbrev bltB(T:Tab)(sc:Scope)(x:Str):Bool:=isGl sc x&&T.blt.contains x
abbrev spF(K:Frag)(cf:CF)(f:Nat):Sp:=λvs H Qv _=>∃ι S ds,RVs K ι H ds vs/\RH K ι H S/\W (cf f ds S) (λd T=>∀v H' ι',Ext ι H ι' H'->RV K ι' H' d v->RH K ι' H' T->Qv v H')
structure HasM(P:Χ)(w:ϒ)(K:Frag)(mg:Str->Option Ω)(base:Heap)(k c:Nat)(m:Str)(sp:Sp):Prop where
 ex:∃(C fa:Addr) (fd:FuncData) (ps:List Str),Mks.cl[c]?=Φ C/\Cls K C/\Meth K C m fa/\FnOk P w K mg base CX0 k fa fd ps sp/\Binds K fd ps []
structure HasI(P:Χ)(w:ϒ)(K:Frag)(mg:Str->Option Ω)(base:Heap)(k c j:Nat)(sp:Sp):Prop where
 ex:∃(C fa:Addr) (fd:FuncData) (ps:List Str),Mks.cl[c]?=Φ C/\Mk K C fa/\FnOk P w K mg base CX0 k fa fd ps sp/\Binds K fd ps (List.replicate j Ω.none)
structure HasC(P:Χ)(w:ϒ)(K:Frag)(mg:Str->Option Ω)(base:Heap)(k:Nat)(x m:Str)(sp:Sp):Prop where
 ex:∃(C fa:Addr) (fd:FuncData) (ps:List Str) (mc:Ω),mg x=Φ (.ref C)/\specialIn K (.ref C) "__getattribute__"=Φ (Φ (.builtin "type.__getattribute__"))/\readsIn K C mc=Δ/\findCls K (.ref C) mc m=Φ (.val (.ref fa))/\
  keepIn K (.ref fa)=Δ/\FnOk P w K mg base CX0 k fa fd ps sp/\Binds K fd ps []
structure IsaOk(K:Frag)(C:Addr):Prop where
 ha:findIn K (.ref C) "__class__"=Φ (Φ (.builtin "object.__class__"))
 hn:specialIn K (.builtin "object.__class__") "__get__"=Φ (Φ (.builtin "getset_descriptor.__get__"))
 ht:takesIn K (.builtin "object.__class__")=Φ Δ
 hm:mroIn K C (.type "object")=Φ Δ
structure TabOk(T:Tab)(cf:CF)(k:Nat)(P:Χ)(w:ϒ)(K:Frag)(mg:Str->Option Ω)(base:Heap):Prop where
 blt:∀x,T.blt.contains x=Δ->mg x=Ψ
 con:∀x d,T.cons.lookup x=Φ d->zno d=Δ/\∃u,mg x=Φ u/\RelV (sV d) u
 fns:∀f x ps nd,T.fns[f]?=Φ (x,ps,nd)->∀j,j<=nd->Has P w K mg base k x ps (List.replicate j .non) (spF K cf f)
 frm:CFok cf
 cls:∀(c:Nat)(x:Str),T.cls[c]?=Φ x->∃C,Mks.cl[c]?=Φ C/\Cls K C/\mg x=Φ (.ref C)/\∀f,T.flds.contains f=Δ->NoAttr K C f
 mth:∀(c:Nat)(m:Str)(fi:Nat),T.mts.contains (c,m,fi)=Δ->HasM P w K mg base k c m (spF K cf fi)
 ini:∀(c fi j:Nat),T.inits.contains (c,fi,j)=Δ->HasI P w K mg base k c j (spF K cf fi)
 cmd:∀(x m:Str)(fi:Nat),T.cms.contains (x,m,fi)=Δ->HasC P w K mg base k x m (spF K cf fi)
 cln:(T.flds≠[]\/T.inits≠[]\/T.isas≠[])->Mks.cl.length<=T.cls.length
 isa:∀(x:Str)(cs:List Nat),T.isas.contains (x,cs)=Δ->∃D,mg x=Φ (.ref D)/\∀c C,Mks.cl[c]?=Φ C->IsaOk K C/\kitOne K (.ref C) (.ref D)=Φ (cs.contains c)
structure Gd(T:Tab)(cf:CF)(k:Nat)(N:List Str)(sc:Scope)(X:Cx):Prop where
 nm:X.N=N
 nd:N.Nodup
 loc:∀x,sc.names.lookup x=Φ .local->X.env.scope.names.lookup x=Φ .local
 cell:∀x,sc.names.lookup x=Φ .cell->X.env.scope.names.lookup x=Φ .cell
 free:∀x,sc.names.lookup x=Φ .free->X.env.scope.names.lookup x=Φ .free\/X.env.scope.names.lookup x=Φ .cell
 glob:∀x,sc.names.lookup x=Φ .globalImplicit->X.env.scope.names.lookup x=Φ .globalImplicit
 fn:(∀x,X.fn x=Δ)\/∀x,sc.names.lookup x≠Φ .cell
 calm:X.calm=Δ
 xe:X.xe=λ_ _=>False
 room':Room (k+1) X.A
 tab:TabOk T cf k X.prog X.w X.K X.mg X.base
 lam:N=T.lam->3<=k/\∃c,Maker X c T.lamP
section
variable{T:Tab}{cf:CF}{k:Nat}{N:List Str}{sc:Scope}{X:Cx}
def Gd.room(G:Gd T cf k N sc X):Room k X.A:=G.room'.mono (le_succ k)
def Gd.hu(G:Gd T cf k N sc X):X.A.units+128<cLine:=by have:=G.room.un;lia
def Gd.vis(G:Gd T cf k N sc X)(h:zlI sc x=Δ):Vis X.env.scope x:=by unfold zlI at h;split at h;rename_i e;exact .inl (G.loc x e);rename_i e;exact .inr (.inl (G.cell x e));rename_i e;rcases G.free x e with q|q;exact .inr (.inr q);exact .inr (.inl q);exact nB h
def Gd.lc(G:Gd T cf k N sc X)(h:zfU sc x=Δ):Loc X.env.scope x/\(X.fn x=Δ\/X.env.scope.names.lookup x=Φ .local):=by unfold zfU at h;split at h;rename_i e;exact⟨.inl (G.loc x e),.inr (G.loc x e)⟩;rename_i e;refine⟨.inr (G.cell x e),?_⟩;rcases G.fn with q|q;exact .inl (q x);exact absurd e (q x);exact nB h
def Gd.gl(G:Gd T cf k N sc X)(h:isGl sc x=Δ):Gl X x:=by unfold isGl at h;split at h;rename_i e;exact G.glob x e;exact nB h
end
abbrev RS(K:Frag)(ι:List Addr)(H:Hp)(δ:Ev)(σ:L2.St):Prop:=δ.length=σ.length/\∀(i:Nat)(d:D),δ[i]?=Φ (Φ d)->∃v,σ[i]?=Φ (Φ v)/\RV K ι H d v
def RS.ext{K}(h:RS K ι H δ a)(x:Ext ι H ι' H'):RS K ι' H' δ a:=⟨h.1,λi d e=>let ⟨v,b,r⟩:=h.2 i d e;⟨v,b,r.ext x⟩⟩
def RS.set{K}(h:RS K ι H δ f)(r:RV K ι H d v)(i):RS K ι H (δ.set i (Φ d)) (f.set i (Φ v)):=by
 refine⟨by simp[h.1],λj e b=>?_⟩;by_cases a:i=j;subst a;have c:i<δ.length:=by have:=(Ζ.mp b).1;simpa using this
 rw[getElem?_set_self c]at b;cases b;exact⟨v,getElem?_set_self (by rw[<-h.1];exact c),r⟩;rw[getElem?_set_ne a]at b;let⟨g,k,l⟩:=h.2 j e b;exact⟨g,by rw[getElem?_set_ne a];exact k,l⟩
abbrev tE(K:Frag)(cf:CF)(ce:CE):TE:=λσ H Qv=>∃δ ι S Q,RS K ι H δ σ/\RH K ι H S/\W (evE cf ce δ S) Q/\∀v H',Lf K ι H Q v H'->Qv v H'
abbrev LfB(K:Frag)(ι:List Addr)(H:Hp)(Q:Bool->R.St->Prop):Bool->Hp->Prop:=λb H'=>∃ι' S',Ext ι H ι' H'/\RH K ι' H' S'/\Q b S'
abbrev tT(K:Frag)(cf:CF)(ce:CE):TT:=λσ H Qv=>∃δ ι S Q,RS K ι H δ σ/\RH K ι H S/\W (evT cf ce δ S) Q/\∀b H',LfB K ι H Q b H'->Qv b H'
abbrev LfA(K:Frag)(ι:List Addr)(H:Hp)(Q:List D->R.St->Prop):List V->Hp->Prop:=λvs H'=>∃ds ι' S',Ext ι H ι' H'/\RVs K ι' H' ds vs/\RH K ι' H' S'/\Q ds S'
abbrev tAs(K:Frag)(cf:CF)(ces:CEs):TA:=λσ H Qv=>∃δ ι S Q,RS K ι H δ σ/\RH K ι H S/\W (evEs cf ces δ S) Q/\∀vs H',LfA K ι H Q vs H'->Qv vs H'
inductive SqK(K:Frag)(ι:List Addr)(H:Hp)(S:R.St)(a:Addr)(xs:List V)(ds:List D)(lks:List Nat):Prop where
 |tmp (h:a∉ι) (e:H a=Φ (.lst xs)):SqK K ι H S a xs ds lks
 |tup (e:H a=Φ (.tup xs)):SqK K ι H S a xs ds lks
 |fix (e:FixL K H a xs):SqK K ι H S a xs ds lks
 |own (l:Nat) (hl:l∈lks) (hi:ι[l]?=Φ a) (hs:S.get l=Φ (.lst ds)) (e:H a=Φ (.lst xs)):SqK K ι H S a xs ds lks
abbrev Sq(K:Frag)(ι:List Addr)(H:Hp)(S:R.St)(v:V)(ds:List D)(lks:List Nat):Prop:=∃a xs,v=.ref a/\RVs K ι H ds xs/\SqK K ι H S a xs ds lks
abbrev LfL(K:Frag)(ι:List Addr)(H:Hp)(Q:List D×List Nat->R.St->Prop):VK:=λv H'=>∃ds lks ι' S',Ext ι H ι' H'/\Sq K ι' H' S' v ds lks/\RH K ι' H' S'/\Q (ds,lks) S'
abbrev tL(K:Frag)(cf:CF)(cl:CL):TE:=λσ H Qv=>∃δ ι S Q,RS K ι H δ σ/\RH K ι H S/\W (evL cf cl δ S) Q/\∀v H',LfL K ι H Q v H'->Qv v H'
abbrev LfT(K:Frag)(ι:List Addr)(H:Hp)(Q:List D×List Nat->R.St->Prop):VK:=λv H'=>∃ds ι' S' a xs,Ext ι H ι' H'/\v=.ref a/\RVs K ι' H' ds xs/\a∉ι'/\H' a=Φ (.lst xs)/\RH K ι' H' S'/\H a=Ψ/\Q (ds,[]) S'
abbrev tLt(K:Frag)(cf:CF)(cl:CL):TE:=λσ H Qv=>∃δ ι S Q,RS K ι H δ σ/\RH K ι H S/\W (evL cf cl δ S) Q/\∀v H',LfT K ι H Q v H'->Qv v H'
def LfT.l{K}(h:LfT K ι H Q v H'):LfL K ι H Q v H':=by let⟨b,ι',c,a,d,x,rfl,r,f,e,g,_,q⟩:=h;exact⟨b,[],ι',c,x,⟨a,d,rfl,r,.tmp f e⟩,g,q⟩
def PE.imp(h:PE X e t)(i:∀a H Q,t' a H Q->t a H Q):PE X e t':=λb s a H Q I q=>h b s a H Q I (i a H Q q)
def PT.imp(h:PT X e t)(i:∀a H Q,t' a H Q->t a H Q):PT X e t':=λb s a H Q I q=>h b s a H Q I (i a H Q q)
def PW.imp(h:PW X e t)(i:∀a H Q,t' a H Q->t a H Q):PW X e t':=λc b s a H Q I q=>h c b s a H Q I (i a H Q q)
def PA.imp(h:PA X es t)(i:∀a H Q,t' a H Q->t a H Q):PA X es t':=λpos b s a H Q I q=>h pos b s a H Q I (i a H Q q)
def tE.run{K}(hs:RS K ι H δ e)(f:RH K ι H S)(w:W (evE cf a δ S) Q)(h:∀d v ι' H' b,Ext ι H ι' H'->RS K ι' H' δ e->RH K ι' H' b->RV K ι' H' d v->Q d b->g v H'):tE K cf a e H g:=
 ⟨δ,ι,S,Q,hs,f,w,λv H' z=>(by let⟨d,ι',b,x,r,c,q⟩:=z;exact h d v ι' H' b x (hs.ext x) c r q)⟩
def tT.run{K}(hs:RS K ι H δ e)(f:RH K ι H S)(w:W (evT cf a δ S) Q)(h:∀b ι' H' c,Ext ι H ι' H'->RS K ι' H' δ e->RH K ι' H' c->Q b c->g b H'):tT K cf a e H g:=
 ⟨δ,ι,S,Q,hs,f,w,λb H' z=>(by let⟨ι',c,x,d,q⟩:=z;exact h b ι' H' c x (hs.ext x) d q)⟩
def tAs.run{K}(hs:RS K ι H δ e)(f:RH K ι H S)(w:W (evEs cf a δ S) Q)(h:∀ds vs ι' H' b,Ext ι H ι' H'->RS K ι' H' δ e->RH K ι' H' b->RVs K ι' H' ds vs->Q ds b->g vs H'):tAs K cf a e H g:=
 ⟨δ,ι,S,Q,hs,f,w,λv H' z=>(by let⟨d,ι',b,x,r,c,q⟩:=z;exact h d v ι' H' b x (hs.ext x) c r q)⟩
def PE.ofT(h:PE X e (tLt X.K cf cl)):PE X e (tL X.K cf cl):=PE.imp h λd H f z=>(by let⟨a,ι,S,Q,b,c,w,q⟩:=z;exact ⟨a,ι,S,Q,b,c,w,λv H' l=>q v H' l.l⟩)
def tLt.run{K}(hs:RS K ι H δ d)(f:RH K ι H S)(w:W (evL cf a δ S) Q)(h:∀ds p xs ι' H' b,Ext ι H ι' H'->RS K ι' H' δ d->RH K ι' H' b->RVs K ι' H' ds xs->p∉ι'->H' p=Φ (.lst xs)->H p=Ψ->Q (ds,[]) b->g (.ref p) H'):tLt K cf a d H g:=
 ⟨δ,ι,S,Q,hs,f,w,λv H' z=>(by let⟨ds,ι',b,p,xs,x,e,r,i,j,c,k,q⟩:=z;exact e▸h ds p xs ι' H' b x (hs.ext x) c r i j k q)⟩
def tL.run{K}(hs:RS K ι H δ e)(f:RH K ι H S)(w:W (evL cf a δ S) Q)(h:∀ds b v ι' H' c,Ext ι H ι' H'->RS K ι' H' δ e->RH K ι' H' c->Sq K ι' H' c v ds b->Q (ds,b) c->g v H'):tL K cf a e H g:=
 ⟨δ,ι,S,Q,hs,f,w,λv H' z=>(by let⟨ds,b,ι',c,x,r,d,q⟩:=z;exact h ds b v ι' H' c x (hs.ext x) d r q)⟩
section
variable{T:Tab}{cf:CF}{k:Nat}{N:List Str}{sc:Scope}{X:Cx}{pos:Pos}
def ziF(h:W o Q):∃a S,o=.ok a S/\Q a S:=W.iff.mp h
def zaA(h:W (lift S o) Q):∃a,o=Φ a/\Q a S:=by cases o with|none=>exact h.elim|some a=>exact⟨a,rfl,h⟩
def zpr(G:Gd T cf k N sc X)(h1:N[i]?=Φ x)(h2:zlI sc x=Δ)(h3:(x==("__debug__":Str))=Θ)(h4:(x==("__classdict__":Str))=Θ):PE X (.Name x pos) (tE X.K cf (.loc i)):=by
 refine PE.imp (zp0 (i:=i) (by rw[G.nm];exact h1) (G.vis h2) h3 h4) λσ H Qv y=>?_;let⟨δ,ι,S,Q,hs,hh,w,q⟩:=y;let⟨d,e,hq⟩:=zaA w;have e':δ[i]?=Φ (Φ d):=by
  cases z:δ[i]? with
  |none=>rw[z]at e;exact nS e
  |some o=>rw[z]at e;simp at e;rw[e]
 let⟨v,ev,r⟩:=hs.2 i d e';exact⟨v,ev,q v H (Lf.of hh r hq)⟩
def zpv(h:conB d c=Δ):PE X (.Constant c j pos) (tE X.K cf (.con d)):=by
 have key:∀{v:V},PE X (.Constant c j pos) (tC v)->(∀K ι H,RV K ι H d v)->PE X (.Constant c j pos) (tE X.K cf (.con d)):=λ{v} hp hr=>PE.imp hp λσ H Qv z=>(by let⟨δ,ι,S,Q,hs,hh,w,q⟩:=z;exact q v H (Lf.of hh (hr _ _ _) w))
 cases d<;>cases c<;>first
  |exact key zp5 λ_ _ _=>rfl
  |exact nB h
  |(simp![conB,beq_iff_eq]at h;subst h;exact key zp7 λ_ _ _=>rfl)
  |(simp![conB,beq_iff_eq]at h;subst h;exact key zrP λ_ _ _=>rfl)
  |(simp![conB,beq_iff_eq]at h;subst h;exact key zp2 λ_ _ _=>rfl)
def znl(G:Gd T cf k N sc X)(h1:isGl sc x=Δ)(h2:T.cons.lookup x=Φ d')(h3:eqC d' d=Δ)(h4:(x==("__debug__":Str))=Θ):PE X (.Name x pos) (tE X.K cf (.con d)):=by have e:=zq1 h3;subst e;let⟨hsc,u,hu,r⟩:=G.tab.con x d' h2;exact PE.imp (znM (G.gl h1) hu r h4) λσ H Qv z=>(by let⟨δ,ι,S,Q,hs,hh,w,q⟩:=z;exact q (sV d') H (Lf.of hh (zrD hsc) w))
def zpx(ha:PE X a (tE X.K cf ca))(hb:PE X b (tE X.K cf cb)):PE X (.BinOp a op b pos) (tE X.K cf (.bin op ca cb)):=by refine PE.imp (zrM (zq7 op) ha hb) λσ H Qv k=>?_;let⟨δ,ι,S,Q,hs,hh,w,q⟩:=k;change W (Out.bind _ _) _ at w;simp![zab] at w;refine tE.run hs hh w λd v ι1 H1 S1 x1 hs1 hh1 r1 w1=>tE.run hs1 hh1 w1 λe u ι2 H2 S2 x2 hs2 hh2 r2 w2=>?_;exact⟨ι2,S2,d,e,Q,r1.ext x2,r2,hh2,w2,λz H3 l=>q z H3 (Lf.up (x1.trans x2) l)⟩
def zpn(ha:PE X a (tE X.K cf ca)):PE X (.UnaryOp .USub a pos) (tE X.K cf (.neg ca)):=by refine PE.imp (zrK zoV ha) λσ H Qv z=>?_;let⟨δ,ι,S,Q,hs,hh,w,q⟩:=z;change W (Out.bind _ _) _ at w;simp![zab] at w;refine tE.run hs hh w λd v ι1 H1 S1 x1 hs1 hh1 r1 w1=>?_;cases d with| int i=>obtain rfl:v=.int i:=r1;exact⟨i,rfl,q _ _ (Lf.up x1 (Lf.of (d:=.int (-i)) hh1 rfl w1))⟩|_=>exact w1.elim
def zrx(ha:PE X a (tE X.K cf ca)):PE X (.UnaryOp .Not a pos) (tE X.K cf (.nt ca)):=by refine PE.imp (zp4 ha) λσ H Qv z=>?_;let⟨δ,ι,S,Q,hs,hh,w,q⟩:=z;change W (Out.bind _ _) _ at w;simp![zab] at w;refine tE.run hs hh w λd v ι1 H1 S1 x1 hs1 hh1 r1 w1=>?_;cases d with| bl i=>obtain rfl:v=.bl i:=r1;exact⟨i,rfl,q _ _ (Lf.up x1 (Lf.of (d:=.bl (!i)) hh1 rfl w1))⟩|_=>exact w1.elim
def zpw(G:Gd T cf k N sc X)(ha:PE X a (tE X.K cf ca))(hb:PE X b (tE X.K cf cb))(hm:zaS b=Δ):PE X (.Compare a [op] [b] pos) (tE X.K cf (.cmp op ca cb)):=by refine PE.imp (znN (zet G.hu op) ha hb (ze2 hm op)) λσ H Qv z=>?_;let⟨δ,ι,S,Q,hs,hh,w,q⟩:=z;change W (Out.bind _ _) _ at w;simp![zab] at w;refine tE.run hs hh w λd v ι1 H1 S1 x1 hs1 hh1 r1 w1=>tE.run hs1 hh1 w1 λe u ι2 H2 S2 x2 hs2 hh2 r2 w2=>?_;let⟨b,hb,w3⟩:=zaA w2;exact⟨ι2,S2,d,e,b,r1.ext x2,r2,hh2,hb,q _ _ (Lf.up (x1.trans x2) (Lf.of (d:=.bl b) hh2 rfl w3))⟩
def zpd(G:Gd T cf k N sc X)(ha:PE X a (tE X.K cf ca))(hb:PE X b (tE X.K cf cb))(hm:zaS b=Δ):PT X (.Compare a [op] [b] pos) (tT X.K cf (.cmp op ca cb)):=by refine PT.imp (znE (zet G.hu op) ha hb (ze2 hm op)) λσ H Qv z=>?_;let⟨δ,ι,S,Q,hs,hh,w,q⟩:=z;change W (Out.bind _ _) _ at w;simp![zab] at w;refine tE.run hs hh w λd v ι1 H1 S1 x1 hs1 hh1 r1 w1=>tE.run hs1 hh1 w1 λe u ι2 H2 S2 x2 hs2 hh2 r2 w2=>?_;let⟨b,hb,w3⟩:=zaA w2;exact⟨ι2,S2,d,e,b,r1.ext x2,r2,hh2,hb,b,rfl,q _ _ ⟨ι2,S2,x1.trans x2,hh2,w3⟩⟩
def znm(G:Gd T cf k N sc X)(ha:PE X a (tE X.K cf ca))(hb:PE X b (tE X.K cf cb))(hc:PE X c (tE X.K cf cc))(hm:zaS b=Δ)(hm':zaS c=Δ):
  PE X (.Compare a [op,op'] [b,c] pos) (tE X.K cf (.cmp2 op op' ca cb cc)):=by
 refine PE.imp (zlw (zet G.hu op) (zet G.hu op') ha hb hc (by simp[lastMarks,ze2 hm'])) λσ H Qv z=>?_;let⟨δ,ι,S,Q,hs,hh,w,q⟩:=z;change W (Out.bind _ _) _ at w;simp![zab] at w;refine tE.run hs hh w λd v ι1 H1 S1 x1 hs1 hh1 r1 w1=>tE.run hs1 hh1 w1 λe u ι2 H2 S2 x2 hs2 hh2 r2 w2=>?_;let⟨b,hb,w3⟩:=zaA w2;refine⟨ι2,S2,d,e,b,r1.ext x2,r2,hh2,hb,b,rfl,?_⟩;cases b with|false=>exact q _ _ (Lf.up (x1.trans x2) (Lf.of (d:=.bl Θ) hh2 rfl w3))| true=>simp![if_true,zab]at w3⊢;refine tE.run hs2 hh2 w3 λe' u' ι3 H3 S3 x3 hs3 hh3 r3 w4=>?_;let⟨b,hb,w5⟩:=zaA w4;exact⟨ι3,S3,e,e',b,r2.ext x3,r3,hh3,hb,q _ _ (Lf.up ((x1.trans x2).trans x3) (Lf.of (d:=.bl b) hh3 rfl w5))⟩
def zm2(G:Gd T cf k N sc X)(ha:PE X a (tE X.K cf ca))(hb:PE X b (tE X.K cf cb))(hc:PE X c (tE X.K cf cc))(hm:zaS b=Δ)(hm':zaS c=Δ):
  PT X (.Compare a [op,op'] [b,c] pos) (tT X.K cf (.cmp2 op op' ca cb cc)):=by
 refine PT.imp (zlh (zet G.hu op) (zet G.hu op') ha hb hc (by simp[lastMarks,ze2 hm'])) λσ H Qv z=>?_;let⟨δ,ι,S,Q,hs,hh,w,q⟩:=z;change W (Out.bind _ _) _ at w;simp![zab] at w;refine tE.run hs hh w λd v ι1 H1 S1 x1 hs1 hh1 r1 w1=>tE.run hs1 hh1 w1 λe u ι2 H2 S2 x2 hs2 hh2 r2 w2=>?_;let⟨b,hb,w3⟩:=zaA w2;refine⟨ι2,S2,d,e,b,r1.ext x2,r2,hh2,hb,b,rfl,?_⟩;cases b with|false=>exact⟨Θ,rfl,q _ _ ⟨ι2,S2,x1.trans x2,hh2,w3⟩⟩| true=>simp![if_true,zab]at w3⊢;refine tE.run hs2 hh2 w3 λe' u' ι3 H3 S3 x3 hs3 hh3 r3 w4=>?_;let⟨b,hb,w5⟩:=zaA w4;exact⟨ι3,S3,e,e',b,r2.ext x3,r3,hh3,hb,b,rfl,q _ _ ⟨ι3,S3,(x1.trans x2).trans x3,hh3,w5⟩⟩
def zmh(ha:PE X a (tE X.K cf ca))(hb:PE X (.BoolOp .And (b::rest) pos) (tE X.K cf cb)):PE X (.BoolOp .And (a::b::rest) pos) (tE X.K cf (.and ca cb)):=by
 refine PE.imp (zqb ha hb) λσ H Qv k=>?_;let⟨δ,ι,S,Q,hs,hh,w,q⟩:=k;change W (Out.bind _ _) _ at w;simp![zab] at w;refine tE.run hs hh w λd v ι1 H1 S1 x1 hs1 hh1 r1 w1=>?_;cases d with
 |bl c=>obtain rfl:v=.bl c:=r1;refine⟨c,rfl,?_⟩;cases c with|false=>exact q _ _ (Lf.up x1 (Lf.of (d:=.bl Θ) hh1 rfl w1))|true=>exact⟨δ,ι1,S1,Q,hs1,hh1,w1,λz H3 l=>q z H3 (Lf.up x1 l)⟩
 |_=>exact w1.elim
def zpm(ha:PE X a (tE X.K cf ca))(hb:PE X (.BoolOp .Or (b::rest) pos) (tE X.K cf cb)):PE X (.BoolOp .Or (a::b::rest) pos) (tE X.K cf (.or ca cb)):=by
 refine PE.imp (zrL ha hb) λσ H Qv k=>?_;let⟨δ,ι,S,Q,hs,hh,w,q⟩:=k;change W (Out.bind _ _) _ at w;simp![zab] at w;refine tE.run hs hh w λd v ι1 H1 S1 x1 hs1 hh1 r1 w1=>?_;cases d with
 |bl c=>obtain rfl:v=.bl c:=r1;refine⟨c,rfl,?_⟩;cases c with|true=>exact q _ _ (Lf.up x1 (Lf.of (d:=.bl Δ) hh1 rfl w1))|false=>exact⟨δ,ι1,S1,Q,hs1,hh1,w1,λz H3 l=>q z H3 (Lf.up x1 l)⟩
 |_=>exact w1.elim
def LfB.up{K}(x:Ext ι H ι' H')(h:LfB K ι' H' Q b c):LfB K ι H Q b c:=by let⟨a,d,e,r⟩:=h;exact⟨a,d,x.trans e,r⟩
def zmc(ha:PT X a (tT X.K cf ca))(hb:PW X (.BoolOp .And (b::rest) pos) (tT X.K cf cb)):PW X (.BoolOp .And (a::b::rest) pos) (tT X.K cf (.and ca cb)):=by refine PW.imp (zpR ha hb) λσ H Qv k=>?_;let⟨δ,ι,S,Q,hs,hh,w,q⟩:=k;change W (Out.bind _ _) _ at w;simp![zab] at w;refine tT.run hs hh w λc ι1 H1 S1 x1 hs1 hh1 w1=>?_;cases c with|false=>exact q _ _ ⟨ι1,S1,x1,hh1,w1⟩|true=>exact⟨δ,ι1,S1,Q,hs1,hh1,w1,λz H3 l=>q z H3 (LfB.up x1 l)⟩
def zpc(ha:PT X a (tT X.K cf ca))(hb:PW X (.BoolOp .Or (b::rest) pos) (tT X.K cf cb)):PW X (.BoolOp .Or (a::b::rest) pos) (tT X.K cf (.or ca cb)):=by refine PW.imp (zrI ha hb) λσ H Qv k=>?_;let⟨δ,ι,S,Q,hs,hh,w,q⟩:=k;change W (Out.bind _ _) _ at w;simp![zab] at w;refine tT.run hs hh w λc ι1 H1 S1 x1 hs1 hh1 w1=>?_;cases c with|true=>exact q _ _ ⟨ι1,S1,x1,hh1,w1⟩|false=>exact⟨δ,ι1,S1,Q,hs1,hh1,w1,λz H3 l=>q z H3 (LfB.up x1 l)⟩
def zru(ha:PT X a (tT X.K cf ca)):PT X (.UnaryOp .Not a pos) (tT X.K cf (.nt ca)):=by refine PT.imp (zpT ha) λσ H Qv z=>?_;let⟨δ,ι,S,Q,hs,hh,w,q⟩:=z;change W (Out.bind _ _) _ at w;simp![zab] at w;exact tT.run hs hh w λc ι1 H1 S1 x1 hs1 hh1 w1=>q _ _ ⟨ι1,S1,x1,hh1,w1⟩
def zo1(hh:RH X.K ι H S)(r:RV X.K ι H d v)(h:tru S d=Φ b):TruV X.K v H b:=by
 cases d with
 |non=>obtain rfl:v=.non:=r;cases h;rfl|bl c=>obtain rfl:v=.bl c:=r;cases h;rfl|int i=>obtain rfl:v=.int i:=r;cases h;rfl| tup ds=>let⟨a,xs,rfl,ha,rr⟩:=r;cases h;refine .inr (.inl ⟨xs,SqT.of ha,?_⟩);have:=rr.length;cases ds<;>cases xs<;>first|rfl|simp at this
 |ref l=>
  simp![tru]at h;split at h
  . rename_i ds e;cases h;let⟨a,h1,rfl⟩:=r;let⟨a2,h2,xs,ha,rr⟩:=hh.obj _ _ e;rw[h1]at h2;cases h2;refine .inl ⟨xs,SqL.of ha,?_⟩;have:=rr.length;cases ds<;>cases xs<;>first|rfl|simp at this
  exact nS h
 |_=>exact nS h
def zpb(ha:PE X a (tE X.K cf ca))(hp:zhl a=Δ):PT X a (tT X.K cf (.tst ca)):=by refine PT.imp (zlg ha (zo0 hp X.env)) λσ H Qv z=>?_;let⟨δ,ι,S,Q,hs,hh,w,q⟩:=z;change W (Out.bind _ _) _ at w;simp![zab] at w;refine tE.run hs hh w λd v ι1 H1 S1 x1 hs1 hh1 r1 w1=>?_;let⟨b,hb,w2⟩:=zaA w1;exact⟨b,zo1 hh1 r1 hb,q _ _ ⟨ι1,S1,x1,hh1,w2⟩⟩
def zps(hc:PT X c (tT X.K cf cc))(ha:PE X a (tE X.K cf ca))(hb:PE X b (tE X.K cf cb)):PE X (.IfExp c a b pos) (tE X.K cf (.ite cc ca cb)):=by refine PE.imp (zlu hc ha hb) λσ H Qv k=>?_;let⟨δ,ι,S,Q,hs,hh,w,q⟩:=k;change W (Out.bind _ _) _ at w;simp![zab] at w;refine tT.run hs hh w λc ι1 H1 S1 x1 hs1 hh1 w1=>?_;cases c with|true=>exact⟨δ,ι1,S1,Q,hs1,hh1,w1,λz H3 l=>q z H3 (Lf.up x1 l)⟩|false=>exact⟨δ,ι1,S1,Q,hs1,hh1,w1,λz H3 l=>q z H3 (Lf.up x1 l)⟩
def zmi:PA X [] (tAs X.K cf .nil):=PA.imp zjx λσ H Qv z=>(by let⟨δ,ι,S,Q,hs,hh,w,q⟩:=z;exact q [] H ⟨[],ι,S,Ext.refl _ _,rfl,hh,by simpa[evEs]using w⟩)
def zi8(he:PE X e (tE X.K cf ce))(hes:PA X es (tAs X.K cf ces))(hn:zak e=Δ):PA X (e::es) (tAs X.K cf (.cons ce ces)):=by refine PA.imp (zdA he hes (zao hn es X.env)) λσ H Qv z=>?_;let⟨δ,ι,S,Q,hs,hh,w,q⟩:=z;simp![evEs,zab]at w;refine tE.run hs hh w λd v ι1 H1 S1 x1 hs1 hh1 r1 w1=>tAs.run hs1 hh1 w1 λds vs ι2 H2 S2 x2 hs2 hh2 r2 w2=>?_;exact q _ _ ⟨d::ds,ι2,S2,x1.trans x2,⟨v,vs,rfl,r1.ext x2,r2⟩,hh2,w2⟩
def zpk(h:PA X es (tAs X.K cf ces)):PE X (.Tuple es j pos) (tE X.K cf (.tup ces)):=by refine PE.imp (zp1 h) λσ H Qv z=>?_;let⟨δ,ι,S,Q,hs,hh,w,q⟩:=z;change W (Out.bind _ _) _ at w;simp![zab] at w;refine tAs.run hs hh w λds vs ι1 H1 S1 x1 hs1 hh1 r1 w1=>?_;split at w1;rename_i c;exact⟨by rw[r1.length,ϑ];exact c,λp hp=>q _ _ (Lf.up x1 (Lf.tup hh1 hp r1 w1))⟩;exact w1.elim
def zpq(h:PA X es (tAs X.K cf ces)):PE X (.List es pos) (tE X.K cf (.lst ces)):=by refine PE.imp (zp6 h) λσ H Qv z=>?_;let⟨δ,ι,S,Q,hs,hh,w,q⟩:=z;change W (Out.bind _ _) _ at w;simp![zab] at w;refine tAs.run hs hh w λds vs ι1 H1 S1 x1 hs1 hh1 r1 w1=>?_;let⟨c,w2⟩:=zcg w1;exact⟨by rw[r1.length];exact c,λp hp=>q _ _ (Lf.up x1 (Lf.lst hh1 hp r1 w2))⟩
def zr5(hh:RH X.K ι H S)(r:RV X.K ι H d v)(hq:zcw S d=Φ ds)(ha:R.atI ds i=Φ e):∃u,rIx X.K v (.int i) H (λz H'=>z=u/\H'=H)/\RV X.K ι H e u:=by
 let⟨a,xs,rfl,hx,rr⟩:=zmf hh hq r;have hl:=rr.length;have key:∃u,L2.atI xs i=Φ u/\RV X.K ι H e u:=by
  unfold R.atI at ha;cases e1:R.ixN ds.length i with
  |none=>rw[e1]at ha;exact nS ha
  |some j=>
   rw[e1]at ha;let⟨u,h1,h2⟩:=rr.get (show ds[j]?=Φ e from ha);refine⟨u,?_,h2⟩;unfold L2.atI;have:L2.ixN xs.length i=Φ j:=by rw[hl];exact e1
   rw[this];exact h1
 let⟨u,h1,h2⟩:=key;refine⟨u,?_,h2⟩;rcases hx with hx|hx;exact .inl ⟨a,xs,i,u,rfl,rfl,hx,h1,rfl,rfl⟩;exact .inr (.inl ⟨a,xs,i,u,rfl,rfl,hx,h1,rfl,rfl⟩)
def znw{K}(h:rIx K x y H (λz H'=>z=u/\H'=H))(q:Q u H):rIx K x y H Q:=by rcases h with⟨p,xs,i,v,h1,h2,h3,h4,rfl,_⟩|⟨p,xs,i,v,h1,h2,h3,h4,rfl,_⟩|⟨z,i,c,h1,h2,h3,h4,h5,_⟩;exact .inl ⟨p,xs,i,v,h1,h2,h3,h4,q⟩;exact .inr (.inl ⟨p,xs,i,v,h1,h2,h3,h4,q⟩);exact .inr (.inr ⟨z,i,c,h1,h2,h3,h4,by rw[h5];exact q⟩)
def zrz(ha:PE X a (tE X.K cf ca))(hb:PE X b (tE X.K cf cb))(hp:zeZ b=Δ):PE X (.Subscript a b pos) (tE X.K cf (.ix ca cb)):=by refine PE.imp (zrN zqR ha hb (zr6 hp)) λσ H Qv k=>?_;let⟨δ,ι,S,Q,hs,hh,w,q⟩:=k;change W (Out.bind _ _) _ at w;simp![zab] at w;refine tE.run hs hh w λd v ι1 H1 S1 x1 hs1 hh1 r1 w1=>tE.run hs1 hh1 w1 λe u ι2 H2 S2 x2 hs2 hh2 r2 w2=>?_;split at w2;rename_i ds i eq;let⟨z,hz,w3⟩:=zaA w2;obtain rfl:u=.int i:=r2;let⟨u,h1,h2⟩:=zr5 hh2 (r1.ext x2) eq hz;exact znw h1 (q _ _ (Lf.up (x1.trans x2) (Lf.of hh2 h2 w3)));exact w2.elim
end
section
variable{K:Frag}{ι ι':List Addr}{H H':Hp}{S T:R.St}{d:D}{v:V}
def zok(hf:T.frz=S.frz++S.new)(h:S.get l=Φ o):T.get l=Φ o:=by let⟨f,n,k⟩:=T;have hf:f=S.frz++S.new:=hf;subst hf;exact zdO h n k
def RH.cut(hh:RH K ι H S)(x:Ext ι H ι' H')(hT:RH K ι' H' T)(hf:T.frz=S.frz++S.new):RH K ι H' S:=by refine⟨hh.len,hh.nd,λl o e=>?_,hT.tab⟩;let⟨a,h1,h2⟩:=hh.obj l o e;let⟨b,h3,h4⟩:=hT.obj l o (zok hf e);rw[zck x.pre h1]at h3;cases h3;refine⟨a,h1,?_⟩;cases o with| lst ds=>let⟨xs,_,r1⟩:=h2;let⟨ys,e2,r2⟩:=h4;exact⟨ys,e2,r2.restrict x.pre r1.flats⟩| ins c fs=>let⟨_,_,ws,_,_,r1⟩:=h2;let⟨C,dx,ys,e0,e2,r2⟩:=h4;exact⟨C,dx,ys,e0,e2,r2.restrict x.pre r1.flats⟩| d3 kvs=>let⟨_,ws,_,r1⟩:=h2;let⟨nd,ys,e2,r2⟩:=h4;exact⟨nd,ys,e2,r2.restrict x.pre r1.flats⟩
def Ext.cut(x:Ext ι H ι' H'):Ext ι H ι H':=⟨prefix_refl _,x.kp,λa o h e=>⟨(x.rest a o h e).1,h⟩⟩
def znJ(hp:ι <+: ι')(nd:ι'.Nodup)(hl:ι'[l]?=Φ a)(h:ι.length<=l):a∉ι:=λhm=>by let⟨t,rfl⟩:=hp;rw[getElem?_append_right h]at hl;have h2:=mem_of_getElem? hl;exact(nodup_append.mp nd).2.2 a hm a h2 rfl
def zor(x:Ext ι H ι' H')(nd:ι'.Nodup)(hl:ι'[l]?=Φ a)(h:ι.length<=l):Ext ι H (ι++[a]) H':=by refine⟨prefix_append _ _,x.kp,λb o hb e=>⟨(x.rest b o hb e).1,λz=>?_⟩⟩;rcases mem_append.mp z with z|z;exact hb z;simp at z;subst z;exact(x.rest b o hb e).2 (mem_of_getElem? hl)
def RH.one{l:Nat}{a:Addr}{o:MO}(hh:RH K ι H' S)(nd:a∉ι)(ho:RO K (ι++[a]) H' a o):RH K (ι++[a]) H' (S.push o):=by
 refine⟨by rw[length_append,hh.len,zdb];rfl,?_,λl o' e=>?_,hh.tab⟩;rw[nodup_append];refine⟨hh.nd,by simp,λb hb c hc=>?_⟩;simp at hc;subst hc;exact λz=>nd (z▸hb);by_cases hl:l<S.len;rw[zdN hl]at e;let⟨b,h1,h2⟩:=hh.obj l o' e;exact⟨b,zck (prefix_append _ _) h1,h2.up (prefix_append _ _) (Kp.refl _) rfl⟩;have hl2:=get_lt e;rw[zdb]at hl2;have:l=S.len:=by lia
 subst this;rw[zhA]at e;cases e;exact⟨a,by rw[<-hh.len];simp,ho⟩
def RH.keep(a:RH K ι' H' T)(c:T.frz=S.frz++S.new):RH K ι' H' ⟨S.frz,S.new++T.new,S.lk⟩:=by
 have g:∀l,(R.St.mk S.frz (S.new++T.new) S.lk).get l=T.get l:=λl=>by unfold St.get;rw[c];simp![length_append];by_cases b:l<S.frz.length;rw[if_pos b,if_pos (by omega),getElem?_append_left b];by_cases f:l<S.frz.length+S.new.length;rw[if_neg b,if_pos f,getElem?_append_left (by omega),getElem?_append_right (by omega)];rw[if_neg b,if_neg f,getElem?_append_right (by omega)];congr 1;omega
 refine⟨?_,a.nd,λl o e=>a.obj l o (by rw[<-g];exact e),a.tab⟩;rw[a.len];unfold St.len;rw[c];simp![length_append];omega
def zhu(hh:RH K ι H S)(x:Ext ι H ι' H')(r:RV K ι' H' d v)(hT:RH K ι' H' T)(hf:T.frz=S.frz++S.new)(w:W (zc9 S d T) Q):Lf K ι H Q v H':=by
 have hc:=hh.cut x hT hf;unfold zc9 at w;split at w;rename_i c;rw[<-hh.len]at c;exact⟨d,ι,S,x.cut,r.restrict x.pre c,hc,w⟩;rename_i c;dsimp only at w;split at w;rename_i l;let⟨a,h1,rfl⟩:=id r;have hl:ι.length<=l:=by simp![R.flat,decide_eq_true_eq]at c;rw[hh.len];lia
 have ha:=znJ x.pre hT.nd h1 hl;split at w;rename_i ds e;let⟨b,h2,h3⟩:=hT.obj l _ e;rw[h1]at h2;cases h2;split at w;rename_i c2;rw[<-hh.len]at c2;let⟨ys,e2,r2⟩:=h3;refine⟨.ref S.len,ι++[a],S.push (.lst ds),zor x hT.nd h1 hl,⟨a,by rw[<-hh.len];simp,rfl⟩,hc.one (l:=l) ha ⟨ys,e2,(r2.restrict x.pre c2).up (prefix_append _ _) (Kp.refl _)⟩,w⟩;exact⟨_,ι',_,x,r,hT.keep hf,w⟩;exact⟨_,ι',_,x,r,hT.keep hf,w⟩;exact⟨_,ι',_,x,r,hT.keep hf,w⟩
end
section
variable{T:Tab}{cf:CF}{k:Nat}{N:List Str}{sc:Scope}{X:Cx}{pos p:Pos}
def RVs.nons{K}:∀j:Nat,RVs K ι H (List.replicate j .non) (List.replicate j .non)
 |0=>rfl|j+1=>⟨.non,List.replicate j .non,rfl,rfl,RVs.nons j⟩
def RH.enter{K}(h:RH K ι H S):RH K ι H S.enter:=⟨by rw[zku];exact h.len,h.nd,λl o e=>h.obj l o (by rw[zaZ]at e;exact e),h.tab⟩
def zkG(hfr:CFok cf)(h:tE X.K cf (.call f j ces) σ H Qv):
  ziX (spF X.K cf f) (List.replicate j .non) E0 (tAs X.K cf ces) σ H Qv:=by
 let⟨δ,ι,S,Q,hs,hh,w,q⟩:=h;change W (Out.bind _ _) _ at w;simp![zab] at w;refine tAs.run hs hh w λds vs ι1 H1 S1 x1 hs1 hh1 r1 w1=>?_;unfold app at w1;rw[zab]at w1;refine⟨ι1,S1.enter,ds++List.replicate j .non,r1.append (RVs.nons j),hh1.enter,?_⟩;let⟨d,T',e,w2⟩:=ziF w1;rw[e];exact λv H' ι' x r hT=>q v H' (Lf.up x1 (zhu hh1 x r hT (hfr _ _ _ _ _ e).frz w2))
def zkJ{K}(hh:RH K ι1 H1 S1)(x:Ext ι H ι1 H1)(hn:H1 a=Ψ):H a=Ψ:=by
 cases e:H a with
 |none=>rfl| some o=>
  by_cases hm:a∈ι;have h2:a∈ι1:=by let⟨t,rfl⟩:=x.pre;exact mem_append_left _ hm
  exact absurd h2 (hh.fresh hn)
  . have:=(x.rest a o hm e).1;rw[hn]at this;rcases this with z|⟨_,_,z⟩<;>exact nS z
def znn(G:Gd T cf k N sc X)(hf:T.fns[f]?=Φ (x,ps,nd))(hj:j<=nd)(hg:isGl sc x=Δ)(hd:(x==("__debug__":Str))=Θ)(ha:PA X (e::es) (tAs X.K cf ces))(hst:(e::es).all zak=Δ):
  PE X (.Call (.Name x p) (e::es) [] pos) (tE X.K cf (.call f j ces)):=by
 have Hs:=G.tab.fns f x ps nd hf j hj;rw[all_cons,Β]at hst;exact PE.imp (zrO Hs G.room ha (G.gl hg) hd (zao hst.1 es X.env) (zbk hst.2)) λσ H Qv h=>zkG G.tab.frm h
def zk7(G:Gd T cf k N sc X)(hf:T.fns[f]?=Φ (x,ps,nd))(hj:j<=nd)(hg:isGl sc x=Δ)(hd:(x==("__debug__":Str))=Θ):
  PE X (.Call (.Name x p) [] [] pos) (tE X.K cf (.call f j .nil)):=by
 have Hs:=G.tab.fns f x ps nd hf j hj;refine PE.imp (zp8 Hs G.room (G.gl hg) hd) λσ H Qv z=>?_;let⟨δ,ι,S,Q,hs,hh,w,q⟩:=z;change W (Out.bind _ _) _ at w;simp![evEs,zaz] at w;unfold app at w;rw[zab]at w;let⟨d,T',e,w2⟩:=ziF w;refine⟨ι,S.enter,[]++List.replicate j .non,RVs.append rfl (RVs.nons j),hh.enter,?_⟩;rw[e];exact λv H' ι' x r hT=>q v H' (zhu hh x r hT (G.tab.frm _ _ _ _ _ e).frz w2)
end
section
variable{prog:Χ}{w:ϒ}{A:ϔ}{E:Ω->Ι->Prop}{s:Ι}
def zco{lo hi}(ht:IsTup s.heap t items)(hs:s.heap.IsSliceOf sl vl vu .none)(pl:IsPart vl lo)(pu:IsPart vu hi)(hw:HT.sIx items.size 0 lo=0/\HT.sIx items.size items.size hi=items.size)(h:Q (.ref t) s):wpAny (model prog w) A (getItem (.ref t) (.ref sl)) Q E s:=by
 let⟨os,hos,hcs,hds⟩:=id hs;have hTs:s.TypeIs (.ref sl) "slice":=⟨os,hos,hcs⟩;unfold getItem
 try with_reducible refine ϙ ?_
 first|refine Ξ (Λ ?_)|skip
 refine Ξ (wpAny_sequenceKey ht.typeIs (by decide) ?_);refine Ξ (Ϝ (name:=Str.ofString "__getitem__") ht.typeIs PyProof.Rows.slot_tuple_getitem
  (ύ PyProof.Rows.slot_tuple_getitem ht.typeIs entry_tuple_getitem ?_ (args_tuple_getitem _ _)))
 show wpAny _ _ (Builtin.Tuple.tupleItemsOf (.ref t)>>=_) _ _ s;refine Ξ (tupleItemsOf_ ht ?_);refine Ξ (wpAny_typeOf hTs ?_);rw[if_pos (by decide)];refine Ξ (HT.sliceApplied_gen hs pl pu ?_);have hyes:(((HT.sIx items.size 0 lo:Nat):Int)==0&&(1:Int)==1&&(HT.sIx items.size items.size hi-HT.sIx items.size 0 lo)==items.size)=Δ:=by rw[hw.1,hw.2];simp
 show wpAny _ _ (if(((HT.sIx items.size 0 lo:Nat):Int)==0&&(1:Int)==1&&(HT.sIx items.size items.size hi-HT.sIx items.size 0 lo)==items.size)=Δ then _ else _) _ _ s;rw[if_pos hyes];unfold Builtin.Tuple.tupleIsExact;refine Ξ (Ξ (wpAny_typeOf ht.typeIs (Λ ?_)));rw[if_pos (by decide)];exact Ξ (Ϭ (Λ ⟨_,rfl,Λ h⟩))
end
section
variable{T:Tab}{cf:CF}{k:Nat}{N:List Str}{sc:Scope}{X:Cx}{pos p:Pos}
abbrev rSlW(K:Frag):V->Option Int->Option Int->Hp->VK->Prop:=λx lo hi H Q=>∃a xs,x=.ref a/\SqT K H a xs/\
 (HT.sIx xs.length 0 lo=0/\HT.sIx xs.length xs.length hi=xs.length)/\Q (.ref a) H
def zkV:SlR X (rSlW X.K):=by
 intro pins s σ H x v vl vu lo hi sl Q I rx hs pl pu h;let⟨a,xs,rfl,hx,hw,q⟩:=h;cases rx;let⟨its,r,ht,hz⟩:=I.tuple hx;have hlen:its.toArray.size=xs.length:=by rw[size_toArray];exact r.length.symm
 exact⟨"tuple",_,PyProof.Rows.slot_tuple_getitem.lookup,ht.typeIs,zco ht hs pl pu (by rw[hlen];exact hw) ⟨.ref a,H,I,rfl,q⟩⟩
def zhc(n d)(o):R.sIx n d o=HT.sIx n d o:=by cases o<;>rfl
def zkC{xs:List α}{lo hi}(h:HT.sIx xs.length 0 lo=0/\HT.sIx xs.length xs.length hi=xs.length):cut xs lo hi=xs:=by unfold cut;rw[zhc,zhc,h.1,h.2];simp
def RVs.cut{K}(r:RVs K ι H ds xs)(lo hi):RVs K ι H (R.cut ds lo hi) (cutV xs lo hi):=by have hl:=r.length;unfold R.cut cutV;rw[zhc,zhc,hl];exact(r.drop _).take _
inductive PartOk(X:Cx)(cf:CF):Bool->CE->Option Expr->Prop where
 |no {c:CE} (h:∃d,c=.con d):PartOk X cf Θ c Ψ
 |yes {c:CE} {e:Expr} (h:PE X e (tE X.K cf c)):PartOk X cf Δ c (Φ e)
def zrw{lo hi}(ha:PE X a (tE X.K cf ca))(hlo:PartOk X cf ml clo lo)(hhi:PartOk X cf mh chi hi):PE X (.Subscript a (.Slice lo hi Ψ p2) pos) (tE X.K cf (.sl ca ml mh clo chi)):=by
 have fin:∀{σ:L2.St}{δ:Ev}{ι ι1:List Addr}{H H1:Hp}{S1:R.St}{Q:D->R.St->Prop}{Qv:VK}{d:D}{v:V}{y z:Option Int},Ext ι H ι1 H1->RH X.K ι1 H1 S1->RV X.K ι1 H1 d v->(∀v H',Lf X.K ι H Q v H'->Qv v H')->
   W (match d with|.tup ds=>.ok (.tup (R.cut ds y z)) S1|.fix ds=>lay S1 (R.cut ds y z)|.ref p=>(match S1.get p with|some (.lst ds)=>lay S1 (R.cut ds y z)|_=>.bad)|_=>.bad) Q->
   (rSlL X.K v y z H1 Qv\/rSlT X.K v y z H1 Qv)\/rSlW X.K v y z H1 Qv:=by
  intro σ δ ι ι1 H H1 S1 Q Qv d v y z x hh r q w;cases d with
  |tup ds=>let⟨a,xs,rfl,ha,rr⟩:=r;by_cases hw:HT.sIx xs.length 0 y=0/\HT.sIx xs.length xs.length z=xs.length;refine .inr ⟨a,xs,rfl,SqT.of ha,hw,q _ _ (Lf.up x (Lf.of (d:=.tup ds) hh ⟨a,xs,rfl,ha,rr⟩ ?_))⟩;have e:R.cut ds y z=ds:=zkC (by rw[<-rr.length];exact hw);dsimp only at w;rw[e]at w;exact w;exact .inl (.inr ⟨a,xs,rfl,SqT.of ha,hw,λp hp=>q _ _ (Lf.up x (Lf.tup hh hp (rr.cut y z) w))⟩)| fix ds=>let⟨a,xs,rfl,ha,rr⟩:=r;let⟨_,w2⟩:=zcg w;exact .inl (.inl ⟨a,xs,rfl,ha.sq,λp hp=>q _ _ (Lf.up x (Lf.lst hh hp (rr.cut y z) w2))⟩)| ref l=>dsimp only at w;cases e:S1.get l with|none=>rw[e]at w;exact w.elim| some o=>rw[e]at w;cases o with| lst ds=>let⟨a,h1,rfl⟩:=r;let⟨b,h2,xs,ha,rr⟩:=hh.obj _ _ e;rw[h1]at h2;cases h2;let⟨_,w2⟩:=zcg w;exact .inl (.inl ⟨a,xs,rfl,SqL.of ha,λp hp=>q _ _ (Lf.up x (Lf.lst hh hp (rr.cut y z) w2))⟩)|_=>exact w.elim
  |_=>exact w.elim
 have part:∀{m:Bool}{c:CE}{o:Option Expr},PartOk X cf m c o->∃t,PO X o t/\∀{δ:Ev}{σ:L2.St}{ι:List Addr}{H:Hp}{S:R.St}{Q:D->R.St->Prop}{Qv:Option Int->Hp->Prop},RS X.K ι H δ σ->RH X.K ι H S->W (evE cf c δ S) Q->
   (∀d S',Q d S'->∃z,zbI m d=Φ z)->
   (∀d ι' H' S' z,Ext ι H ι' H'->RS X.K ι' H' δ σ->RH X.K ι' H' S'->Q d S'->zbI m d=Φ z->Qv z H')->t σ H Qv:=by
  intro m c o h;cases h with| no h=>let⟨d,rfl⟩:=h;refine⟨_,zgJ,λ{δ σ ι H S Q Qv} hs hh w hp h=>?_⟩;exact h d ι H S Ψ (Ext.refl _ _) hs hh w rfl| yes h=>refine⟨_,zjp h,λ{δ σ ι H S Q Qv} hs hh w hp h=>?_⟩;refine tE.run hs hh w λd v ι1 H1 S1 x1 hs1 hh1 r1 w1=>?_;let⟨z,hz⟩:=hp d S1 w1;cases d with| int i=>obtain rfl:v=.int i:=r1;exact⟨i,rfl,h _ _ _ _ _ x1 hs1 hh1 w1 rfl⟩|_=>exact nS hz
 let⟨tl,pl,rl⟩:=part hlo;let⟨th,ph,rh⟩:=part hhi;refine PE.imp (zlq (SlR.or (SlR.or zm8 zpj) zkV) ha pl ph) λσ H Qv k=>?_;let⟨δ,ι,S,Q,hs,hh,w,q⟩:=k;change W (Out.bind _ _) _ at w;simp![zab] at w;refine tE.run hs hh w λd v ι1 H1 S1 x1 hs1 hh1 r1 w1=>?_;have hz:∀(b:Bool)(y:D),zbI b y=Ψ\/∃z,zbI b y=Φ z:=λb y=>by cases zbI b y<;>simp
 refine rl hs1 hh1 w1 (λy S2 w2=>?_) λy ι2 H2 S2 zl x2 hs2 hh2 w2 hzl=>?_;rcases hz ml y with e|e;rw[W.iff]at w2;let⟨u,S3,_,w3⟩:=w2;rw[e]at w3;exact w3.elim;exact e;refine rh hs2 hh2 w2 (λu S3 w3=>?_) λu ι3 H3 S3 zh x3 hs3 hh3 w3 hzh=>?_;rcases hz mh u with e|e;rw[hzl,e]at w3;exact w3.elim;exact e;rw[hzl,hzh]at w3;exact fin (σ:=σ) (δ:=δ) ((x1.trans x2).trans x3) hh3 (r1.ext (x2.trans x3)) q w3
end
abbrev rB(K:Frag)(f:R.St->List D->Out D):List V->Hp->VK->Prop:=λxs H Qv=>∃ι S ds Qd,RVs K ι H ds xs/\RH K ι H S/\W (f S ds) Qd/\∀v H',Lf K ι H Qd v H'->Qv v H'
section
variable{T:Tab}{cf:CF}{k:Nat}{N:List Str}{sc:Scope}{X:Cx}{pos p:Pos}
def RVs.one{K}(r:RVs K ι H [d] xs):∃v,xs=[v]/\RV K ι H d v:=by let⟨v,w,rfl,a,b⟩:=r;cases(show w=[] from b);exact⟨v,rfl,a⟩
def RVs.two{K}(r:RVs K ι H [d,e] xs):∃v u,xs=[v,u]/\RV K ι H d v/\RV K ι H e u:=by let⟨v,w,rfl,a,b⟩:=r;let⟨u,rfl,c⟩:=RVs.one b;exact⟨v,u,rfl,a,c⟩
def zqI:za0 X (.builtin "len") (rB X.K λS ds=>R.bi S .len ds):=by
 intro pins s σ H xs us Qv I rv z;let⟨ι,S,ds,Qd,r,hh,w,q⟩:=z;dsimp only at w;unfold bi at w;split at w
 case h_1 x=>
  let⟨v,rfl,rr⟩:=r.one;split at w;let⟨a,xs,rfl,ha,r2⟩:=rr;refine zbQ pins s σ H _ us Qv I rv ⟨a,xs,rfl,.inr (SqT.of ha),?_⟩;rw[r2.length];exact q _ _ (Lf.of (d:=.int _) hh rfl w);let⟨a,xs,rfl,ha,r2⟩:=rr;refine zbQ pins s σ H _ us Qv I rv ⟨a,xs,rfl,.inl ha.sq,?_⟩;rw[r2.length];exact q _ _ (Lf.of (d:=.int _) hh rfl w);rename_i l;let⟨a,h1,rfl⟩:=rr;cases e:S.get l with|none=>rw[e]at w;exact w.elim| some o=>rw[e]at w;let⟨b,h2,h3⟩:=hh.obj _ _ e;rw[h1]at h2;cases h2;cases o with| lst ds=>let⟨xs,ha,r2⟩:=h3;refine zbQ pins s σ H _ us Qv I rv ⟨a,xs,rfl,.inl (SqL.of ha),?_⟩;rw[r2.length];exact q _ _ (Lf.of (d:=.int _) hh rfl w)|_=>exact w.elim
  exact w.elim
 all_goals first|exact w.elim|(rename_i h;cases h)
def zrf:za0 X (.builtin "abs") (rB X.K λS ds=>R.bi S .abs ds):=by
 intro pins s σ H xs us Qv I rv z;let⟨ι,S,ds,Qd,r,hh,w,q⟩:=z;dsimp only at w;unfold bi at w;split at w
 case h_2 i _=>let⟨v,rfl,rr⟩:=r.one;obtain rfl:v=.int i:=rr;exact zl0 pins s σ H _ us Qv I rv ⟨i,rfl,q _ _ (Lf.of (d:=.int _) hh rfl w)⟩
 all_goals first|exact w.elim|(rename_i h;cases h)
def zqt(hc:X.calm=Δ):za0 X (.builtin "max") (rB X.K λS ds=>R.bi S .max2 ds):=by
 intro pins s σ H xs us Qv I rv z;let⟨ι,S,ds,Qd,r,hh,w,q⟩:=z;dsimp only at w;unfold bi at w;split at w
 case h_3 i j _=>let⟨v,u,rfl,r1,r2⟩:=r.two;obtain rfl:v=.int i:=r1;obtain rfl:u=.int j:=r2;exact zkF hc pins s σ H _ us Qv I rv ⟨i,j,rfl,q _ _ (Lf.of (d:=.int _) hh rfl w)⟩
 all_goals first|exact w.elim|(rename_i h;cases h)
def zqr(hc:X.calm=Δ):za0 X (.builtin "min") (rB X.K λS ds=>R.bi S .min2 ds):=by
 intro pins s σ H xs us Qv I rv z;let⟨ι,S,ds,Qd,r,hh,w,q⟩:=z;dsimp only at w;unfold bi at w;split at w
 case h_4 i j _=>let⟨v,u,rfl,r1,r2⟩:=r.two;obtain rfl:v=.int i:=r1;obtain rfl:u=.int j:=r2;exact zkE hc pins s σ H _ us Qv I rv ⟨i,j,rfl,q _ _ (Lf.of (d:=.int _) hh rfl w)⟩
 all_goals first|exact w.elim|(rename_i h;cases h)
def zaP(G:Gd T cf k N sc X)(h:bltB T sc x=Δ):Gl X x/\X.mg x=Ψ:=by unfold bltB at h;rw[Β]at h;exact⟨G.gl h.1,G.tab.blt x h.2⟩
def zrA{id}(hc:za0 X (.builtin id) (rB X.K λS ds=>R.bi S b ds))(hg:Gl X x/\X.mg x=Ψ)(hv:bootBuiltins x=Φ (.builtin id))(ha:PA X (e::es) (tAs X.K cf ces))(hst:(e::es).all zak=Δ)(hn:x≠"__name__")(hdb:(x==("__debug__":Str))=Θ):
  PE X (.Call (.Name x p) (e::es) [] pos) (tE X.K cf (.bi b ces)):=by
 rw[all_cons,Β]at hst;refine PE.imp (zb1 hc hg.1 hg.2 hv ha hn hdb (zao hst.1 es X.env) (zbk hst.2)) λσ H Qv z=>?_;let⟨δ,ι,S,Q,hs,hh,w,q⟩:=z;change W (Out.bind _ _) _ at w;simp![zab] at w;refine tAs.run hs hh w λds vs ι1 H1 S1 x1 hs1 hh1 r1 w1=>?_;exact⟨ι1,S1,ds,Q,r1,hh1,w1,λv H' l=>q v H' (Lf.up x1 l)⟩
def zmV(hh:RH X.K ι H S)(r:RV X.K ι H d v)(h:tyOf S d=Φ a):zcX H v=Φ a:=by
 cases d with
 |non=>obtain rfl:v=.non:=r;exact h|bl b=>obtain rfl:v=.bl b:=r;exact h|int b=>obtain rfl:v=.int b:=r;exact h|str b=>obtain rfl:v=.str b:=r;exact h| tup ds=>let⟨p,xs,rfl,ha,_⟩:=r;simp![tyOf]at h;simp![zcX,ha];exact h| ref l=>
  let⟨p,h1,rfl⟩:=r;simp![tyOf]at h;simp![zcX];cases e:S.get l with
  |none=>rw[e]at h;exact nS h
  |some o=>
   rw[e]at h;let⟨b,h2,h3⟩:=hh.obj _ _ e;rw[h1]at h2;cases h2;cases o with
   |lst ds=>let⟨xs,ha,_⟩:=h3;rw[ha];exact h|ins _ _=>exact nS h
   |d3 _=>exact nS h
 |fix ds=>exact nS h
def znk(G:Gd T cf k N sc X)(hg:Gl X "isinstance"/\X.mg "isinstance"=Ψ)(hy:Gl X y/\X.mg y=Ψ)(hb:bootBuiltins y=Φ (.type t))(ht:t∈["bool","int","str","list","tuple","dict"])(hyn:y≠"__name__")(hyd:(y==("__debug__":Str))=Θ)(he:PE X e (tE X.K cf ce))(hst:zak e=Δ):PE X (.Call (.Name "isinstance" p) [e,.Name y p2] [] pos) (tE X.K cf (.bi (.isin t) (.cons ce .nil))):=by
 refine PE.imp (zb1 zgY hg.1 hg.2 zfg (zdA he (zdA (znP (v:=.ty t) hy.1 hy.2 hb rfl hyn hyd) zjx) (zao hst _ X.env)) (by decide) (by decide) (zao hst _ X.env)) λσ H Qv z=>?_;let⟨δ,ι,S,Q,hs,hh,w,q⟩:=z;change W (Out.bind _ _) _ at w;simp![evEs,zab,W_ok] at w;refine tE.run hs hh w λd v ι1 H1 S1 x1 hs1 hh1 r1 w1=>?_;simp![bi]at w1;cases e:tyOf S1 d with|none=>rw[e]at w1;exact w1.elim| some a=>rw[e]at w1;exact⟨v,t,a,rfl,zmV hh1 r1 e,ht,q _ _ (Lf.up x1 (Lf.of (d:=.bl _) hh1 rfl w1))⟩
def zmA(hh:RH X.K ι H S)(r:RV X.K ι H d v)(h:isL S d=Δ):tyV X.K "list" v H:=by
 cases d with
 |ref l=>
  let⟨p,h1,rfl⟩:=r;simp![isL]at h;cases e:S.get l with
  |none=>rw[e]at h;exact nB h
  |some o=>rw[e]at h;let⟨b,h2,h3⟩:=hh.obj _ _ e;rw[h1]at h2;cases h2;cases o with|lst ds=>let⟨xs,ha,_⟩:=h3;exact .inl ⟨rfl,xs,SqL.of ha⟩|_=>exact nB h
 |_=>exact nB h
abbrev rM(K:Frag)(m:Mt):V->List V->Hp->VK->Prop:=λx xs H Qv=>∃ι S d ds Qd,RV K ι H d x/\RVs K ι H ds xs/\RH K ι H S/\W (R.mt S m d ds) Qd/\∀v H',Lf K ι H Qd v H'->Qv v H'
def zkK:MtR X "list.append" (rM X.K .append):=by
 intro pins s σ H x xs v us Qv I rx rv z;let⟨ι,S,d,ds,Qd,r,rs,hh,w,q⟩:=z;unfold R.mt at w;split at w
 case h_1 l y _=>let⟨a,h1,rfl⟩:=r;let⟨u,rfl,ru⟩:=rs.one;cases e:S.get l with|none=>rw[e]at w;exact w.elim| some o=>rw[e]at w;let⟨b,h2,h3⟩:=hh.obj _ _ e;rw[h1]at h2;cases h2;cases o with| lst ds=>let⟨zs,ha,r2⟩:=h3;let⟨c,S',hp,w2⟩:=zmP w;refine zfK pins s σ H _ _ v us Qv I rx rv ⟨a,zs,u,rfl,rfl,ha,?_,?_⟩;rw[r2.length];rw[length_append,List.length_singleton]at c;lia;exact q _ _ (Lf.wr (d:=.non) hh e h1 hp (r2.append ⟨u,[],rfl,ru,rfl⟩) rfl w2)|_=>exact w.elim
 all_goals first|exact w.elim|(rename_i h;cases h)
def zlj:MtR X "list.pop" (rM X.K .popAt):=by
 intro pins s σ H x xs v us Qv I rx rv z;let⟨ι,S,d,ds,Qd,r,rs,hh,w,q⟩:=z;unfold R.mt at w;split at w
 case h_2 l i _=>
  let⟨a,h1,rfl⟩:=r;let⟨u,rfl,ru⟩:=rs.one;obtain rfl:u=.int i:=ru;cases e:S.get l with
  |none=>rw[e]at w;exact w.elim| some o=>
   rw[e]at w;let⟨b,h2,h3⟩:=hh.obj _ _ e;rw[h1]at h2;cases h2;cases o with
   |lst ds=>
    let⟨zs,ha,r2⟩:=h3;dsimp only at w;split at w;rename_i c0;cases ey:ds[i.toNat]? with|none=>rw[ey]at w;exact w.elim| some y=>rw[ey]at w;let⟨c,S',hp,w2⟩:=zmP w;let⟨u,eu,ru⟩:=r2.get ey;have hlt:i.toNat<zs.length:=(Ζ.mp eu).1;have hz:zs.length<=sizeLine:=(I.lstM ha).1;rw[ϑ]at hz;refine zlA pins s σ H _ _ v us Qv I rx rv ⟨a,zs,i,i.toNat,u,rfl,rfl,ha,by lia,by lia,?_,eu,?_⟩;exact PySem.StrLaws.seqIndex_nonneg c0 (by lia);exact q _ _ (Lf.wr (d:=y) hh e h1 hp (r2.erase _) ru w2)
    exact w.elim
   |_=>exact w.elim
 all_goals first|exact w.elim|(rename_i h;cases h)
def zfm:∀{ds:List D}{os:List (Option Int)},zbo ds=Φ os->ds=os.map λo=>match o with|some i=>D.int i|none=>D.non:=by intro ds;unfold zbo;induction ds with|nil=>intro os h;simp at h;subst h;rfl| cons d ds ih=>intro os h;let⟨y,r,h1,h2,rfl⟩:=zaH h;rw[ih h2];cases d<;>simp[zl4]at h1<;>subst h1<;>rfl
abbrev wV:Option Int->V
 |some i=>.int i|none=>.non
def zeH{K}:∀{os:List (Option Int)}{vs:List V},RVs K ι H (os.map λo=>match o with|some i=>D.int i|none=>D.non) vs->vs=os.map wV
 | [],_,h=>h| o::os,vs,h=>by let⟨v,r,rfl,h1,h2⟩:=h;rw[zeH h2];cases o<;>rw[show v=_ from h1]<;>rfl
abbrev isI(i:Int):Ω->Bool
 |.int j _=>j==i|_=>Θ
def zcW(i):∀{os:List (Option Int)}{us:List Ω},Vals (os.map wV) us->(∀y∈us,y=Ω.none\/∃a u,y=Ω.int a u)/\us.countP (isI i)=os.count (Φ i)
 | [],us,r=>by cases r;exact⟨λy hy=>by simp at hy,rfl⟩| o::os,us,r=>by
  cases r with
  | @cons _ u _ us r1 r2=>
   let⟨h1,h2⟩:=zcW i r2;cases o with
   |none=>obtain rfl:u=Ω.none:=r1;refine⟨λy hy=>?_,?_⟩;rcases mem_cons.mp hy with rfl|hy;exact .inl rfl;exact h1 y hy;rw[List.countP_cons,List.count_cons,h2];simp[isI]
   |some j=>obtain⟨t,rfl⟩:∃t,u=Ω.int j t:=r1;refine⟨λy hy=>?_,?_⟩;rcases mem_cons.mp hy with rfl|hy;exact .inr ⟨_,_,rfl⟩;exact h1 y hy;rw[List.countP_cons,List.count_cons,h2];simp[isI]
abbrev isN:Ω->Bool
 |.none=>Δ|_=>Θ
def zdV:∀{os:List (Option Int)}{us:List Ω},Vals (os.map wV) us->us.countP isN=os.count Ψ
 | [],us,r=>by cases r;rfl| o::os,us,r=>by cases r with| @cons _ u _ us r1 r2=>have h2:=zdV r2;cases o with| none=>obtain rfl:u=Ω.none:=r1;rw[List.countP_cons,List.count_cons,h2];simp[isN]| some j=>obtain⟨t,rfl⟩:∃t,u=Ω.int j t:=r1;rw[List.countP_cons,List.count_cons,h2];simp[isN]
def zlY:MtR X "list.count" (rM X.K .count):=by
 intro pins s σ H x xs v us Qv I rx rv z;let⟨ι,S,d,ds,Qd,r,rs,hh,w,q⟩:=z;unfold R.mt at w;split at w
 case h_3 l i _=>
  let⟨a,h1,rfl⟩:=r;let⟨u,rfl,ru⟩:=rs.one;obtain rfl:u=.int i:=ru;cases e:S.get l with
  |none=>rw[e]at w;exact w.elim| some o=>
   rw[e]at w;let⟨b,h2,h3⟩:=hh.obj _ _ e;rw[h1]at h2;cases h2;cases o with
   |lst ds=>let⟨zs,ha,r2⟩:=h3;dsimp only at w;cases e2:zbo ds with|none=>rw[e2]at w;exact w.elim| some os=>rw[e2]at w;rw[zfm e2]at r2;cases zeH r2;let⟨its,rz,pl,_⟩:=I.list (SqL.of ha);let⟨u1,rfl,ru1⟩:=Vals.one rv;let⟨t,rfl⟩:=ru1;cases rx;let⟨c1,c2⟩:=zcW i rz;have hl:=pl.isList;let⟨⟨cls,dd,data,sl⟩,ho,hc,n,hd⟩:=id hl;simp only at hc hd;subst hc hd;refine call_meets PySem.F.slot_list_count ⟨_,ho,rfl⟩ PySem.F.entry_list_count (PySem.F.args_list_count_2 _ _) (PySem.SeqAt.list_countAt a its.toArray n dd sl (.int i t) (isI i)) ⟨ho,λy hy=>?_,?_⟩;rcases c1 y (by simpa using hy) with rfl|⟨j,u,rfl⟩;exact PySem.SeqAt.EqAt.none_int i t;exact PySem.SeqAt.EqAt.int_int j u i t;rw[show its.toArray.toList=its from rfl,c2];exact⟨.int _,H,I.tok _,⟨_,rfl⟩,q _ _ (Lf.of (d:=.int _) hh rfl w)⟩
   |_=>exact w.elim
 case h_4 l _=>
  let⟨a,h1,rfl⟩:=r;let⟨u,rfl,ru⟩:=rs.one;obtain rfl:u=.non:=ru;cases e:S.get l with
  |none=>rw[e]at w;exact w.elim| some o=>
   rw[e]at w;let⟨b,h2,h3⟩:=hh.obj _ _ e;rw[h1]at h2;cases h2;cases o with
   |lst ds=>let⟨zs,ha,r2⟩:=h3;dsimp only at w;cases e2:zbo ds with|none=>rw[e2]at w;exact w.elim| some os=>rw[e2]at w;rw[zfm e2]at r2;cases zeH r2;let⟨its,rz,pl,_⟩:=I.list (SqL.of ha);let⟨u1,rfl,ru1⟩:=Vals.one rv;obtain rfl:=ru1;cases rx;let⟨c1,c2⟩:=zcW 0 rz;have hl:=pl.isList;let⟨⟨cls,dd,data,sl⟩,ho,hc,n,hd⟩:=id hl;simp only at hc hd;subst hc hd;refine call_meets PySem.F.slot_list_count ⟨_,ho,rfl⟩ PySem.F.entry_list_count (PySem.F.args_list_count_2 _ _) (PySem.SeqAt.list_countAt a its.toArray n dd sl .none isN) ⟨ho,λy hy=>?_,?_⟩;rcases c1 y (by simpa using hy) with rfl|⟨j,u,rfl⟩;exact PySem.SeqAt.EqAt.same _;exact PySem.SeqAt.EqAt.int_none j u;rw[show its.toArray.toList=its from rfl,zdV rz];exact⟨.int _,H,I.tok _,⟨_,rfl⟩,q _ _ (Lf.of (d:=.int _) hh rfl w)⟩
   |_=>exact w.elim
 all_goals first|exact w.elim|(rename_i h;cases h)
def znh{id}(slot:Slot "list" name id)(hty:typeOf (.builtin id)=pure (.type "method_descriptor"))(hm:MtR X id (rM X.K m))(ho:PE X o (tE X.K cf co))(he:PE X e (tE X.K cf ce))(hst:zak e=Δ)(hsup:zcd o=Δ)(hl:(apos.endLine==cpos.line)=Δ):
  PE X (.Call (.Attribute o name apos) [e] [] cpos) (tE X.K cf (.mt m co (.cons ce .nil))):=by
 refine PE.imp (zqa PySem.F.plainAttrs_list slot hty hm ho (zi8 he zmi hst) (zfp hsup name X.env _) (by rw[zao hst];rfl) hl (zao hst [] X.env)) λσ H Qv k=>?_;let⟨δ,ι,S,Q,hs,hh,w,q⟩:=k;change W (Out.bind _ _) _ at w;simp![zab] at w;refine tE.run hs hh w λd v ι1 H1 S1 x1 hs1 hh1 r1 w1=>?_;split at w1;rename_i c;refine⟨zmA hh1 r1 c,?_⟩;rw[zab]at w1;refine tAs.run hs1 hh1 w1 λds vs ι2 H2 S2 x2 hs2 hh2 r2 w2=>?_;exact⟨ι2,S2,d,ds,Q,r1.ext x2,r2,hh2,w2,λz H3 l=>q z H3 (Lf.up (x1.trans x2) l)⟩;exact w1.elim
def SqK.seq{K}(h:SqK K ι H S a xs ds b):SqL K H a xs\/SqT K H a xs:=by cases h with|tmp h e=>exact .inl (SqL.of e)|tup e=>exact .inr (SqT.of e)|fix e=>exact .inl e.sq|own l c d f e=>exact .inl (SqL.of e)
def zpi(he:PE X e (tE X.K cf ce)):PE X e (tL X.K cf (.val ce)):=by
 refine PE.imp he λσ H Qv z=>?_;let⟨δ,ι,S,Q,hs,hh,w,q⟩:=z;change W (Out.bind _ _) _ at w;simp![zab] at w;refine tE.run hs hh w λd v ι1 H1 S1 x1 hs1 hh1 r1 w1=>?_;let⟨ds,eq,w2⟩:=zaA w1;refine q v H1 ⟨ds,lkOf S1 d,ι1,S1,x1,?_,hh1,w2⟩;cases d with
 |tup es=>cases eq;let⟨a,xs,rfl,ha,rr⟩:=r1;exact⟨a,xs,rfl,rr,.tup ha⟩| fix es=>cases eq;let⟨a,xs,rfl,ha,rr⟩:=r1;exact⟨a,xs,rfl,rr,.fix ha⟩| ref l=>simp![zcw]at eq;split at eq;rename_i ds' e;cases eq;let⟨a,h1,rfl⟩:=r1;let⟨a2,h2,xs,ha,rr⟩:=hh1.obj _ _ e;rw[h1]at h2;cases h2;exact⟨a,xs,rfl,rr,.own l (by simp[lkOf]) h1 e ha⟩;exact nS eq
 |_=>exact nS eq
def zaD(he:PE X e te)(hst:zak e=Δ):PA X [e] (zpa te tNil):=zdA he zjx (zao hst [] X.env)
def zpo(G:Gd T cf k N sc X)(hg:Gl X "tuple"/\X.mg "tuple"=Ψ)(he:PE X e (tL X.K cf cl))(hst:zak e=Δ):PE X (.Call (.Name "tuple" p) [e] [] pos) (tE X.K cf (.mkT cl)):=by
 refine PE.imp (zaO zfd hg.1 hg.2 zff (zaD he hst) (by decide) (by decide) (zao hst [] X.env)) λσ H Qv z=>?_;let⟨δ,ι,S,Q,hs,hh,w,q⟩:=z;change W (Out.bind _ _) _ at w;simp![zab] at w;refine tL.run hs hh w λds lks v ι1 H1 S1 x1 hs1 hh1 sq w1=>?_;split at w1;rename_i c;let⟨a,xs,rfl,rr,kd⟩:=sq;have fresh:SqL X.K H1 a xs->∃p ys,[V.ref a]=[V.ref p]/\((SqL X.K H1 p ys/\∀l,H1 l=Ψ->Qv (.ref l) (upd H1 l (.tup ys)))\/(SqT X.K H1 p ys/\Qv (.ref p) H1)):=λh=>⟨a,xs,rfl,.inl ⟨h,λl hl=>q _ _ (Lf.up x1 (Lf.tup hh1 hl rr w1))⟩⟩;cases kd with|tmp h e=>exact fresh (SqL.of e)|fix e=>exact fresh e.sq|own l hl hi hs e=>exact fresh (SqL.of e)|tup e=>exact⟨a,xs,rfl,.inr ⟨SqT.of e,q _ _ (Lf.up x1 (Lf.of (d:=.tup ds) hh1 ⟨a,xs,rfl,e,rr⟩ w1))⟩⟩
 exact w1.elim
def zmg(G:Gd T cf k N sc X)(hg:Gl X "list"/\X.mg "list"=Ψ)(he:PE X e (tL X.K cf cl))(hst:zak e=Δ):PE X (.Call (.Name "list" p) [e] [] pos) (tE X.K cf (.mkL cl)):=by refine PE.imp (zaO zf9 hg.1 hg.2 zg0 (zaD he hst) (by decide) (by decide) (zao hst [] X.env)) λσ H Qv z=>?_;let⟨δ,ι,S,Q,hs,hh,w,q⟩:=z;change W (Out.bind _ _) _ at w;simp![zab] at w;refine tL.run hs hh w λds lks v ι1 H1 S1 x1 hs1 hh1 sq w1=>?_;let⟨c,w2⟩:=zcg w1;let⟨a,xs,rfl,rr,kd⟩:=sq;exact⟨a,xs,rfl,kd.seq,λl hl=>q _ _ (Lf.up x1 (Lf.lst hh1 hl rr w2))⟩
def zjF(h:tE X.K cf (.mkL cl) σ H Qv):tLt X.K cf cl σ H Qv:=by let⟨δ,ι,S,Q,hs,hh,w,q⟩:=h;change W (Out.bind _ _) _ at w;simp![zab] at w;refine tLt.run hs hh w λds p xs ι1 H1 S1 x1 hs1 hh1 r1 hp e hn w1=>?_;let⟨c,w2⟩:=zcg w1;refine q _ _ ⟨.ref S1.len,ι1++[p],S1.push (.lst ds),?_,⟨p,hh1.last p,rfl⟩,hh1.one (l:=0) hp ⟨xs,e,r1.up (prefix_append _ _) (Kp.refl _)⟩,w2⟩;refine⟨x1.pre.trans (prefix_append _ _),x1.kp,λb o hb eb=>⟨(x1.rest b o hb eb).1,λz=>?_⟩⟩;rcases mem_append.mp z with z|z;exact(x1.rest b o hb eb).2 z;simp at z;subst z;rw[hn]at eb;exact nS eb
def zpu(ho:PE X o (tE X.K cf ca))(he:PE X e (tLt X.K cf cl))(hst:zak e=Δ)(hsup:zcd o=Δ)(hl:(apos.endLine==cpos.line)=Δ):
  PE X (.Call (.Attribute o "extend" apos) [e] [] cpos) (tE X.K cf (.ext ca cl)):=by
 refine PE.imp (zqa PySem.F.plainAttrs_list PySem.F.slot_list_extend PySem.F.type_list_extend zjE ho (zaD he hst) (zfp hsup "extend" X.env _) (by rw[zao hst];rfl) hl (zao hst [] X.env)) λσ H Qv z=>?_;let⟨δ,ι,S,Q,hs,hh,w,q⟩:=z;change W (Out.bind _ _) _ at w;simp![zab] at w;refine tE.run hs hh w λd v ι1 H1 S1 x1 hs1 hh1 r1 w1=>?_;split at w1;rename_i c;refine⟨zmA hh1 r1 c,?_⟩;rw[zab]at w1;refine tLt.run hs1 hh1 w1 λds b xs ι2 H2 S2 x2 hs2 hh2 rr _ hb _ w2=>?_;cases d with
 |ref l=>let⟨a,h1,rfl⟩:=r1.ext x2;dsimp only at w2;cases e:S2.get l with|none=>rw[e]at w2;exact w2.elim| some o=>rw[e]at w2;cases o with| lst es=>let⟨b',h2,zs,ha,rz⟩:=hh2.obj _ _ e;rw[h1]at h2;cases h2;let⟨c2,S',hp,w3⟩:=zmP w2;refine⟨a,b,zs,xs,rfl,rfl,ha,hb,?_,q _ _ (Lf.up (x1.trans x2) (Lf.wr (d:=.non) hh2 e h1 hp (rz.append rr) rfl w3))⟩;rw[rz.length,rr.length,<-length_append];exact c2|_=>exact w2.elim
 |_=>exact w2.elim
 exact w1.elim
def zhN:bootBuiltins "range"=Φ (.type "range"):=by decide +kernel
def zfz:za0 X (.type "range") (λxs H Q=>∃j,xs=[.int j]/\∀p,H p=Ψ->Q (.ref p) (upd H p (.rng 0 j))):=by intro pins s σ H xs us Q I r h;let⟨j,rfl,q⟩:=h;let⟨u,rfl,ru⟩:=r.one;let⟨t,rfl⟩:=ru;refine call_range_1 ⟨.ref s.heap.objs.size,_,I.laid (o:=.rng 0 j) (λb ob e=>Α _ e) (le_refl _) ?_,rfl,q _ (I.hok.fresh (le_refl _))⟩;exact⟨_,_,_,Μ _ rfl⟩
def zlF(hc:X.calm=Δ):za0 X (.type "list") (λxs H Q=>∃p hi,xs=[.ref p]/\H p=Φ (.rng 0 hi)/\-(2^62)<=hi/\hi<2^62/\hi.toNat<=16777216/\∀l,H l=Ψ->Q (.ref l) (upd H l (.lst ((List.range hi.toNat).map λ(j:Nat)=>.int j)))):=by
 intro pins s σ H xs us Q I r h;let⟨p,hi,rfl,hp,h1,h2,h3,q⟩:=h;let⟨u,rfl,ru⟩:=r.one;cases(show u=Ω.ref p from ru);let⟨t,t2,t3,e⟩:=(show ObjOk X.prog X.w H s.heap p (.rng 0 hi) from I.hok p _ hp);have hn:Builtin.Range.rangeSize 0 hi 1=(hi.toNat:Nat):=by rw[rangeSize_one];split<;>lia
 refine call_list_range (I.ok.hd hc) e (small_one (by decide) (by decide) h1 h2) hn h3 λh' tk acc c kp hg it=>?_;refine⟨.ref s.heap.objs.size,_,I.laid (o:=.lst _) kp (le_refl _) ⟨?_,acc.toList,c,?_,?_⟩,rfl,q _ (I.hok.fresh (le_refl _))⟩;rw[length_map,length_range,ϑ];exact h3;have key:∀(n:Nat)(us:List Ω),us.length=n->(∀(j:Nat)(v:Ω),us[j]?=Φ v->∃t,v=Ω.int (0+(j:Int)*1) t)->Vals ((List.range n).map λ(j:Nat)=>V.int j) us:=by
  intro n;induction n with
  |zero=>intro us hl _;cases us with
   |nil=>exact .nil|cons _ _=>simp at hl
  |succ n ih=>
   intro us hl hv;have hne:us≠[]:=by intro z;subst z;simp at hl
   have hd:us=us.dropLast++[us.getLast hne]:=(List.dropLast_concat_getLast hne).symm;rw[List.range_succ,map_append,hd];have hdl:us.dropLast.length=n:=by simp[hl]
   refine Vals.append (ih _ hdl λj v e=>hv j v ?_) (.cons ?_ .nil);have hj:j<us.dropLast.length:=(Ζ.mp e).1;rw[hd,getElem?_append_left hj];exact e;let⟨t,e⟩:=hv n (us.getLast hne) (by
    conv=>lhs;rw[hd]
    rw[getElem?_append_right (by lia)];simp[hdl])
   exact⟨t,by simpa using e⟩
 exact key _ _ (by simpa using it.1) λj v e=>it.2 j v (by simpa using e);simpa using hg
def zni(G:Gd T cf k N sc X)(hg:Gl X "list"/\X.mg "list"=Ψ)(hr:Gl X "range"/\X.mg "range"=Ψ)(ha:PE X a (tE X.K cf ca))(hst:zak a=Δ):
  PE X (.Call (.Name "list" p) [.Call (.Name "range" p2) [a] [] pos'] [] pos) (tE X.K cf (.mkL (.rng1 ca))):=by
 have hin:=zaO (p:=p2) (pos:=pos') zfz hr.1 hr.2 zhN (zaD ha hst) (by decide) (by decide) (zao hst [] X.env);refine PE.imp (zaO (zlF G.calm) hg.1 hg.2 zg0 (zaD hin rfl) (by decide) (by decide) rfl) λσ H Qv z=>?_;let⟨δ,ι,S,Q,hs,hh,w,q⟩:=z;change W (Out.bind (Out.bind _ _) _) _ at w;simp![zab]at w;refine tE.run hs hh w λd v ι1 H1 S1 x1 hs1 hh1 r1 w1=>?_;cases d with| int j=>obtain rfl:v=.int j:=r1;dsimp only at w1;split at w1;rename_i c;let⟨c2,w2⟩:=zcg w1;refine⟨j,rfl,λpr hpr=>⟨pr,j,rfl,zap,c.1,c.2,by simpa[ϑ]using c2,λl hl=>?_⟩⟩;have hh2:=hh1.new hpr (.rng 0 j);refine q _ _ (Lf.up (x1.trans (Ext.new hpr _)) (Lf.lst hh2 hl ?_ w2));have:=RVs.ints (K:=X.K) (ι:=ι1) (H:=upd H1 pr (.rng 0 j)) ((List.range j.toNat).map λ(m:Nat)=>(m:Int));rw[map_map,map_map]at this;exact this;exact w1.elim|_=>exact w1.elim
def zoD{bs:List Bool}(h:ds.mapM zeC=Φ bs):ds=bs.map D.bl:=by
 induction ds generalizing bs with
 |nil=>
  have h:bs=[]:=by simpa using h.symm
  subst h;rfl
 |cons d ds ih=>let⟨y,r,h1,h2,rfl⟩:=zaH h;cases d<;>simp[zeC]at h1;subst h1;rw[ih h2];rfl
def RVs.bls_eq{K}:∀{bs:List Bool}{vs:List V},RVs K ι H (bs.map D.bl) vs->vs=bs.map V.bl
 | [],_,h=>h| b::bs,vs,h=>by let⟨v,r,rfl,a,c⟩:=h;rw[RVs.bls_eq c,show v=.bl b from a];rfl
def ziP{bs:List Bool}(r:Vals (bs.map V.bl) us):us=bs.map Ω.bool:=by induction bs generalizing us with|nil=>cases r;rfl| cons b bs ih=>cases r with|cons r1 r2=>rw[ih r2,show _=Ω.bool b from r1];rfl
def zkN(bs:List Bool):(List.range bs.length).all (λi=>bs.getD i Θ)=bs.all id:=by
 rw[Bool.eq_iff_iff,all_eq_true,all_eq_true];constructor;intro h b hb;let⟨i,hi,e⟩:=List.getElem_of_mem hb;have:=h i (by simpa using hi);rw[ϗ,Η hi,e]at this;exact this;intro h i hi;have hi:i<bs.length:=by simpa using hi
 rw[ϗ,Η hi];exact h _ (Ϙ hi)
def zoI(hc:X.calm=Δ):za0 X (.builtin "all") (λxs H Q=>∃(a:Addr) (bs:List Bool),xs=[.ref a]/\(SqL X.K H a (bs.map V.bl)\/SqT X.K H a (bs.map V.bl))/\Q (.bl (bs.all id)) H):=by
 intro pins s σ H xs us Q I r h;let⟨a,bs,rfl,hq,q⟩:=h;let⟨u,rfl,ru⟩:=r.one;cases(show u=Ω.ref a from ru);have hA:X.A.in1.in1.handled=Ψ:=I.ok.hd hc;have hA1:X.A.in1.handled=Ψ:=I.ok.hd hc;have tr:∀(items:Array Ω),items.toList=bs.map Ω.bool->TruthOf X.prog X.w X.A.in1 (λi v=>items[i]?=Φ v) (λi=>bs.getD i Θ):=by
  intro items e i v s' Q' E' hv hQ;have hv':items.toList[i]?=Φ v:=by rw[ϋ];exact hv
  rw[e,getElem?_map]at hv';cases z:bs[i]? with
  |none=>rw[z]at hv';exact nS hv'
  |some b=>rw[z]at hv';simp![Option.map_some,Option.some.injEq]at hv';subst hv';dsimp only at hQ;rw[ϗ,z]at hQ;exact ϟ hQ
 have fin:∀(h':Heap)(tk n:Nat)(s2:Ι)(it:Addr),n=bs.length->s.heap.objs.size=it->Inv X pins σ H s2->s2.os=s.os->(∀b o,b∉[it]->s2.heap.get? b=Φ o->h'.get? b=Φ o)->
   EP X pins σ Q (.bool ((List.range n).all λi=>bs.getD i Θ)) {s2 with heap:=h',toks:=tk}:=by
  intro h' tk n s2 it hn hit I2 ho kp;subst hn;rw[zkN];have fp:=I.fpOk (b:=it) (H':=H) (by lia) (I.hok.fresh (by lia));let⟨f0,f1,f2,f3,f4,f5⟩:=fp;exact⟨.bl _,H,I2.turned (it:=it) (λb o hb e=>kp b o (by simpa using hb) e) f0 f1 f3 f4 f5,rfl,q⟩
 rcases hq with hq|hq;let⟨its,rv,pl,hz⟩:=I.list hq;have hits:=ziP rv;have hlen:=rv.length;refine call_all_walk (wpAny_pyIter_list pl.isList ?_);have hne:a≠s.heap.objs.size:=by let⟨o,n,e,_⟩:=pl;exact ne_of_lt (Ν e)
 refine⟨s.heap.objs.size,_,_,_,_,_,_,rfl,Walks.list hA1 _ a hne its.toArray,⟨⟨_,Μ _ rfl,rfl,rfl⟩,pl.isList.push _⟩,tr its.toArray (by simpa using hits),λh' tk kp=>?_⟩;exact fin h' tk _ _ _ (by simpa using hlen.symm) rfl (I.kept (t':=s.toks) λb o e=>Α _ e) rfl kp;let⟨its,rv,pl,hz⟩:=I.tuple hq;have hits:=ziP rv;have hlen:=rv.length;refine call_all_walk (wpAny_pyIter_tuple (show s.heap.IsTuple a its.toArray from pl) ?_);have hne:a≠s.heap.objs.size:=by let⟨o,e,_⟩:=pl;exact ne_of_lt (Ν e)
 refine⟨s.heap.objs.size,_,_,_,_,_,_,rfl,Walks.tuple hA1 _ a hne its.toArray,⟨⟨_,Μ _ rfl,rfl,rfl⟩,?_⟩,tr its.toArray (by simpa using hits),λh' tk kp=>?_⟩;let⟨o,e,c⟩:=pl;exact⟨o,Α _ e,c⟩;exact fin h' tk _ _ _ (by simpa using hlen.symm) rfl (I.kept (t':=s.toks) λb o e=>Α _ e) rfl kp
def zpy(G:Gd T cf k N sc X)(hg:Gl X "all"/\X.mg "all"=Ψ)(he:PE X e (tL X.K cf cl))(hst:zak e=Δ):PE X (.Call (.Name "all" p) [e] [] pos) (tE X.K cf (.all cl)):=by
 refine PE.imp (zb1 (zoI G.calm) hg.1 hg.2 zrc (zaD he hst) (by decide) (by decide) (zao hst [] X.env)) λσ H Qv z=>?_;let⟨δ,ι,S,Q,hs,hh,w,q⟩:=z;change W (Out.bind _ _) _ at w;simp![zab] at w;refine tL.run hs hh w λds lks v ι1 H1 S1 x1 hs1 hh1 sq w1=>?_;let⟨b,hb,w2⟩:=zaA w1;unfold allD at hb;cases e:ds.mapM zeC with
 |none=>rw[e]at hb;exact nS hb
 |some bs=>
  rw[e]at hb;have hb:b=bs.all id:=by simpa using hb.symm
  subst hb;let⟨a,xs,rfl,rr,kd⟩:=sq;rw[zoD e]at rr;have:=rr.bls_eq;subst this;exact⟨a,bs,rfl,kd.seq,q _ _ (Lf.up x1 (Lf.of (d:=.bl _) hh1 rfl w2))⟩
end
section
variable{prog:Χ}{w:ϒ}{A:ϔ}{E:Ω->Ι->Prop}{s:Ι}
noncomputable abbrev set0(b:Bool):Obj:={cls:=.type "set",dict:=Ψ,data:=.set #[] 0 (.fresh 0 0 b)}
set_option maxHeartbeats 6400000 in
def zi3(hc:A.handled=Ψ)(ht:IsTup s.heap t its)(hi:IntsAre its.toList ms)(hb:its.size+1<scanBound)(fin:∀(g:Heap)(tk:Nat),g.SetOf (intKind prog w) s.heap.objs.size (λz=>(firstMet (λi=>ms.getD i 0) its.size).any (·==z)) (firstMet (λi=>ms.getD i 0) its.size).length->
   (∀b o,b<s.heap.objs.size->s.heap.get? b=Φ o->g.get? b=Φ o)->Q (.ref s.heap.objs.size) {s with heap:=g,toks:=tk}):wpAny (model prog w) A (call (.type "set") [.ref t]) Q E s:=by
 let⟨mc,mt,hmro⟩:=F.called_set.mro;have c1:=F.called_set.made;have c2:=F.called_set.sub;refine wpAny_call (codeAny_of_tree ?_);show wpAny _ _ (callAny (.type "set") _) _ _ _;refine Λ ⟨Code.quiet_builtin _ (by decide +kernel),Ϟ F.entry_type_call ?_⟩;rw[ϔ.under_plain (weight_type_call_type "set" [.ref t] []) rfl];have c3:=F.called_set.notType;have c4:=F.called_set.canCreate;have c5:=F.typeCall_set_1 (.ref t)
 repeat (any_goals (first|assumption|wp_step))
 refine ϩ (code_set_new_1 (.ref t) (E:=E) (Q₁:=λo z=>∃led:Bool,o=.ref s.heap.objs.size/\z={s with heap:=s.heap.push (set0 led)}) λled=>⟨led,rfl,rfl⟩) λr z hr=>?_;cases r with
 |error e=>exact hr| ok fl=>
  cases fl with
  |ret o=>
   let⟨led,rfl,rfl⟩:=hr;have g0:(s.heap.push (set0 led)).get? s.heap.objs.size=Φ (set0 led):=Μ _ rfl;have g1:Ι.TypeIs {s with heap:=s.heap.push (set0 led)} (.ref s.heap.objs.size) "set":=⟨_,g0,rfl⟩;have c6:=F.called_set.init.lookup;have c7:=F.called_set.init.bind (.ref s.heap.objs.size)
   repeat (any_goals (first|assumption|wp_step))
   refine ϩ (codeAny_call_builtin (R:=wants (λr z=>r=.none/\∃g tk,z={s with heap:=g,toks:=tk}/\
    g.SetOf (intKind prog w) s.heap.objs.size (λz=>(firstMet (λi=>ms.getD i 0) its.size).any (·==z)) (firstMet (λi=>ms.getD i 0) its.size).length/\
    (∀b o,b<s.heap.objs.size->s.heap.get? b=Φ o->g.get? b=Φ o)) E) F.called_set.init.plain F.entry_set_init (check_set_init_1 g1 ?_)) λr2 z2 hr2=>?_
   . let⟨⟨oc,od,oda,osl⟩,ho,hcl,nl,hda⟩:=id ht;simp only at hcl hda;subst hcl hda;have ho':(s.heap.push (set0 led)).get? t=Φ {cls:=.type "tuple",dict:=od,data:=.seq its nl,slots:=osl}:=Α _ ho;have d1:=F.sub_tuple_set;have d2:=F.sub_tuple_frozenset;have d3:(Ω.type "tuple" == Ω.type "dict")=Θ:=by decide
     have ht1:(s.heap.push (set0 led)).IsTuple t its:=⟨_,ho',rfl,nl,rfl⟩;unfold Builtin.«set.__init__» noKeywords Builtin.Frozenset.updateFrom;generalize hPI:pyIter=PI
     wp_walk
     subst hPI;refine wpAny_pyIter_tuple ht1 ?_;refine Ξ (wpAny_runValue ?_);have tl:t<s.heap.objs.size:=Ν ho;have tn:t≠(s.heap.push (set0 led)).objs.size:=by rw[ϓ];exact ne_of_lt (ϥ tl)
     have sn:s.heap.objs.size∉[(s.heap.push (set0 led)).objs.size,t]:=by rw[ϓ];simp![mem_cons,not_mem_nil,or_false,not_or];exact⟨ne_of_lt (Ϫ _),ne_of_gt tl⟩
     refine codeAny_set_update_loopS ((Walks.tuple (by simp[hc]) _ t tn its).toS) s.heap.objs.size sn (λi=>ms.getD i 0) (λi v hv=>IntsAre.int_at hi i v (by rw[ϋ];exact hv)) hb (its.size-0) 0 _ (by lia) (zero_le _)
      ⟨⟨_,Μ _ rfl,rfl,rfl⟩,⟨_,Α _ ho',rfl,nl,rfl⟩⟩ ?start ?last
     case start=>exact SetOf_congr ((setObjOf_fresh (knd:=intKind prog w) led).setOf (Α _ g0) (by unfold scanBound;lia)) (λ_=>rfl) rfl
     case last=>rintro⟨g,gg,dd,tk,oo⟩ mv hS;obtain rfl:gg=s.gens:=mv.gens;obtain rfl:dd=s.drawn:=mv.drawn;obtain rfl:oo=s.os:=mv.os;show wpAny _ _ _ _ _ _;refine Λ ?_;show wpAny _ _ (ret Ω.none) _ _ _;refine Λ ⟨rfl,g,tk,rfl,hS,λb o hb e=>mv.heap b o ?_ (Α _ (Α _ e))⟩;rw[ϓ];simp![mem_cons,not_mem_nil,or_false,not_or];exact⟨ne_of_lt hb,ne_of_lt (ϥ hb)⟩
   cases r2 with
   |error e=>exact hr2| ok f2=>
    cases f2 with
    |ret r=>
     let⟨rfl,g,tk,rfl,hS,hk⟩:=hr2
     repeat (any_goals (first|assumption|wp_step))
     exact fin _ _ hS hk
    |_=>exact hr2.elim
  |_=>exact hr.elim
end
section
variable{T:Tab}{cf:CF}{k:Nat}{N:List Str}{sc:Scope}{X:Cx}{pos p p2 pos':Pos}
def zcG(ns):R.dedup ns=firstMet (λi=>ns.getD i 0) ns.length:=by
 unfold R.dedup firstMet;have e:(List.range ns.length).map (λi=>ns.getD i 0)=ns:=by apply ext_getElem?;intro i;rw[getElem?_map];by_cases h:i<ns.length;simp[h,ϗ];simp[h,ϝ (Nat.le_of_not_lt h)]
 rw[e];congr 1;funext acc x;unfold step_dedup;simp[List.contains_eq_any_beq]
def zkZ(hc:X.calm=Δ):za0 X (.type "set") (λxs H Q=>∃(a:Addr) (ns:List Int),xs=[.ref a]/\(SqL X.K H a (ns.map V.int)\/SqT X.K H a (ns.map V.int))/\ns.length<4000/\∀p,H p=Ψ->∀S,Q (.ref p) (upd H p (.set S (R.dedup ns).length))):=by
 intro pins s σ H xs us Q I r h;let⟨a,ns,rfl,hq,hz,q⟩:=h;let⟨u,rfl,ru⟩:=r.one;cases(show u=Ω.ref a from ru);have fresh:=I.hok.fresh (le_refl s.heap.objs.size);have lay:∀(g:Heap)(tk n:Nat)(F:Int->Bool),n=(R.dedup ns).length->g.SetOf (intKind X.prog X.w) s.heap.objs.size F n->(∀b o,b<s.heap.objs.size->s.heap.get? b=Φ o->g.get? b=Φ o)->EP X pins σ Q (.ref s.heap.objs.size) {s with heap:=g,toks:=tk}:=by intro g tk n F hn hS kp;subst hn;exact⟨.ref s.heap.objs.size,_,I.laid (o:=.set F _) (λb o e=>kp b o (Ν e) e) (le_refl _) hS,rfl,q _ fresh F⟩
 have hA:X.A.handled=Ψ:=I.ok.hd hc;rcases hq with hq|hq;let⟨its,rv,pl,hz2⟩:=I.list hq;have hl:its.toArray.size=ns.length:=by rw[size_toArray,<-rv.length,length_map]
 refine call_set_list hA pl.isList (zbm rv) (by rw[hl];unfold scanBound;lia) λg tk hS kp=>lay g tk _ _ ?_ hS kp;rw[zcG,hl];let⟨its,rv,pl,hz2⟩:=I.tuple hq;have hl:its.toArray.size=ns.length:=by rw[size_toArray,<-rv.length,length_map]
 refine zi3 hA pl (zbm rv) (by rw[hl];unfold scanBound;lia) λg tk hS kp=>lay g tk _ _ ?_ hS kp;rw[zcG,hl]
def zn6:za0 X (.builtin "len") (λxs H Q=>∃p S n,xs=[.ref p]/\H p=Φ (.set S n)/\n<4096/\Q (.int n) H):=by intro pins s σ H xs us Q I r h;let⟨p,S,n,rfl,hp,hn,q⟩:=h;let⟨u,rfl,ru⟩:=r.one;cases(show u=Ω.ref p from ru);let⟨o,es,ep,tb,e1,e2,e3,_,_,_,e4,e5⟩:=(show ObjOk X.prog X.w H s.heap p (.set S n) from I.hok p _ hp);subst e5;exact call_len_set e1 e2 e3 e4 (by lia) ⟨.int _,H,I.tok _,⟨_,rfl⟩,q⟩
def zf7(ns):(R.dedup ns).length<=ns.length:=by rw[zcG];exact firstMet_length_le _ _
def zi6(G:Gd T cf k N sc X)(hg:Gl X "len"/\X.mg "len"=Ψ)(hr:Gl X "set"/\X.mg "set"=Ψ)(he:PE X e (tL X.K cf cl))(hst:zak e=Δ):
  PE X (.Call (.Name "len" p) [.Call (.Name "set" p2) [e] [] pos'] [] pos) (tE X.K cf (.lenset cl)):=by
 have hin:=zaO (p:=p2) (pos:=pos') (zkZ G.calm) hr.1 hr.2 zkI (zaD he hst) (by decide) (by decide) (zao hst [] X.env);refine PE.imp (zb1 zn6 hg.1 hg.2 zmK (zaD hin rfl) (by decide) (by decide) rfl) λσ H Qv z=>?_;let⟨δ,ι,S,Q,hs,hh,w,q⟩:=z;change W (Out.bind _ _) _ at w;simp![zab] at w;refine tL.run hs hh w λds lks v ι1 H1 S1 x1 hs1 hh1 sq w1=>?_;let⟨ns,hb,w2⟩:=zaA w1;split at w2;rename_i c;let⟨a,xs,rfl,rr,kd⟩:=sq;have hb:zaI ds=Φ ns:=hb;rw[zcD hb]at rr;have:=rr.ints_eq;subst this;have hd:=zf7 ns;refine⟨a,ns,rfl,kd.seq,c,λpr hpr F=>⟨pr,F,_,rfl,zap,by lia,?_⟩⟩;exact q _ _ (Lf.up (x1.trans (Ext.new hpr _)) (Lf.of (d:=.int _) (hh1.new hpr _) rfl w2));exact w2.elim
end
end R
namespace R
open PySem
@[reducible]def Rise(xs:Array Nat):Prop:=xs.toList.Pairwise (· < ·)
def zdp(h:Rise xs)(hij:i<j)(hj:j<xs.size):xs[i]'(by lia)<xs[j]:=by have:=List.pairwise_iff_getElem.mp h i j (by simpa using(by lia:i<xs.size)) (by simpa using hj) hij;simpa using this
def zfe(xs)(j)(h:Rise xs):∀(f lo hi:Nat),hi-lo<=f->lo<=hi->hi<=xs.size->(∀i (hi':i<xs.size),i<lo->xs[i]<j)->(∀i (hi':i<xs.size),hi<=i->j<=xs[i])->
  SetTable.below.go xs j f lo hi<=xs.size/\(∀i (hi':i<xs.size),i<SetTable.below.go xs j f lo hi->xs[i]<j)/\∀i (hi':i<xs.size),SetTable.below.go xs j f lo hi<=i->j<=xs[i]
 |0,lo,hi,hf,hl,hs,h1,h2=>by
  have:lo=hi:=by lia
  subst this;exact⟨hs,h1,h2⟩
 |f+1,lo,hi,hf,hl,hs,h1,h2=>by
  unfold SetTable.below.go;by_cases c:lo<hi;rw[if_pos c];have hm:(lo+hi)/2<xs.size:=by lia
  have e:xs.getD ((lo+hi)/2) j=xs[(lo+hi)/2]:=by simp[Array.getD,hm]
  dsimp only;rw[e];by_cases c2:xs[(lo+hi)/2]<j;rw[if_pos c2];refine zfe xs j h f _ _ (by lia) (by lia) hs (λi hi' hl'=>?_) h2;by_cases q:i=(lo+hi)/2;subst q;exact c2;exact lt_trans (zdp h (show i<(lo+hi)/2 by lia) hm) c2;rw[if_neg c2];refine zfe xs j h f _ _ (by lia) (by lia) (by lia) h1 λi hi' hl'=>?_;by_cases q:i=(lo+hi)/2;subst q;lia;have:=zdp h (show(lo+hi)/2<i by lia) hi';lia;rw[if_neg c];have:lo=hi:=by lia
  subst this;exact⟨hs,h1,h2⟩
def zb5(h:Rise xs)(j):SetTable.below xs j<=xs.size/\(∀i (hi:i<xs.size),i<SetTable.below xs j->xs[i]<j)/\∀i (hi:i<xs.size),SetTable.below xs j<=i->j<=xs[i]:=zfe xs j h xs.size 0 xs.size (by lia) (zero_le _) (le_refl _) (λi _ q=>by lia) (λi hi q=>by lia)
def zeF(h:Rise xs)(hi:i<xs.size):SetTable.below xs (xs[i]+1)=i+1:=by
 let⟨b1,b2,b3⟩:=zb5 h (xs[i]+1);have h1:¬SetTable.below xs (xs[i]+1)<=i:=λc=>by have:=b3 i hi c;lia
 by_cases c:i+1<SetTable.below xs (xs[i]+1);have hs:i+1<xs.size:=by lia
 have q1:=b2 (i+1) hs c;have q2:=zdp h (show i<i+1 by lia) hs;lia;lia
def zeE(h:Rise xs):SetTable.below xs 0=0:=by let⟨b1,b2,b3⟩:=zb5 h 0;cases e:SetTable.below xs 0 with|zero=>rfl|succ n=>exact absurd (b2 0 (by lia) (by lia)) (Nat.not_lt_zero _)
def zcm(xs)(p)(x:α):(SetTable.insertAt xs p x).toList=xs.toList.take p++x::xs.toList.drop p:=by unfold SetTable.insertAt;simp[List.take_of_length_le]
def zdq(h:Rise xs)(hj:xs[SetTable.below xs j]?≠Φ j):Rise (SetTable.insertAt xs (SetTable.below xs j) j):=by
 let⟨b1,b2,b3⟩:=zb5 h j;generalize SetTable.below xs j=p at *;unfold Rise;rw[zcm,List.pairwise_append];refine⟨h.sublist (List.take_sublist _ _),?_,?_⟩;rw[pairwise_cons];refine⟨λy hy=>?_,h.sublist (List.drop_sublist _ _)⟩;let⟨i,hi,e⟩:=ϖ.mp hy;rw[List.getElem_drop]at e;have hs:p+i<xs.size:=by simp at hi;lia
 have e:xs[p+i]=y:=by simpa using e
 have q:=b3 (p+i) hs (by lia);have ne:xs[p+i]≠j:=λz=>by
  cases i with
  |zero=>exact hj (by rw[ϐ (by lia)];exact congrArg Φ z)| succ i=>
   have hp:p<xs.size:=by lia
   have:=zdp h (show p<p+(i+1) by lia) hs;have:=b3 p hp (le_refl _);lia
 lia;intro a ha b hb;let⟨i,hi,e⟩:=ϖ.mp ha;rw[List.getElem_take]at e;have hs:i<xs.size:=by simp at hi;lia
 have hip:i<p:=by simp at hi;lia
 have e:xs[i]=a:=by simpa using e
 have q:=b2 i hs hip;rcases mem_cons.mp hb with rfl|hb;lia;let⟨m,hm,e2⟩:=ϖ.mp hb;rw[List.getElem_drop]at e2;have hs2:p+m<xs.size:=by simp at hm;lia
 have e2:xs[p+m]=b:=by simpa using e2
 have:=b3 (p+m) hs2 (by lia);lia
def zgR(t)(ha)(h):∀(f:Nat)(p:SetTable.Probe)(j:Nat)(d:Option Nat),(∀x,p.dummy=Φ x->t.slot x=.dummy)->SetTable.probe.go t ha h f p=Φ (.empty j d)->t.slot j=.empty/\∀x,d=Φ x->t.slot x=.dummy
 |0,p,j,d,hp,e=>by exact nS e| f+1,p,j,d,hp,e=>by
  unfold SetTable.probe.go at e;have adv:∀q:SetTable.Probe,(t.advance q).dummy=q.dummy:=λq=>by unfold SetTable.advance;split<;>rfl
  cases hs:t.slot p.j with|empty=>rw[hs]at e;cases e;exact⟨hs,hp⟩| dummy=>rw[hs]at e;refine zgR t ha h f _ j d (λx hx=>?_) e;rw[adv]at hx;cases hx;exact hs| live i=>rw[hs]at e;dsimp only at e;split at e;cases e;exact zgR t ha h f _ j d (λx hx=>hp x (by rw[adv]at hx;exact hx)) e
def zol{t:SetTable}(e:t.freeSlot h=Φ (slot,b)):t.place[SetTable.below t.place slot]?≠Φ slot:=by
 unfold SetTable.freeSlot at e;split at e;rename_i j d hp;let⟨h1,h2⟩:=zgR t _ h _ _ j d (λx hx=>by exact nS hx) hp;cases e;have key:∀x,(t.slot x=.empty\/t.slot x=.dummy)->t.place[SetTable.below t.place x]?≠Φ x:=λx hx z=>by unfold SetTable.slot at hx;dsimp only at hx;rw[if_pos (by simpa using z)]at hx;rcases hx with q|q<;>cases q
 cases d with|none=>exact key j (.inl h1)|some x=>exact key x (.inr (h2 x rfl))
 exact nS e
def zbY(n):Rise (Array.range n):=by unfold Rise;rw[Array.toList_range];exact List.pairwise_lt_range
structure TOk(b:Bool)(t:SetTable):Prop where
 led:t.led=b
 rise:Rise t.place
def zqJ(h:TOk b t)(es)(x)(v):TOk b (layNew t es x v).2.1:=by unfold layNew;split;rename_i slot d e;have h1:TOk b (t.put slot).1:=⟨h.led,zdq h.rise (zol e)⟩;dsimp only;unfold SetTable.orStandIn;split;exact h1;exact⟨h1.led,zbY _⟩;exact⟨h.led,zbY _⟩
def zlc(h:TOk b t)(es)(n):TOk b (relayAll t es n).2.1:=by
 unfold relayAll;split;rename_i t' ord e;have h1:TOk b t':=by
  unfold SetTable.relaid SetTable.laid at e;cases ec:SetTable.layClean (SetTable.sizeAbove n-1) (es.map (·.1)) with
  |none=>rw[ec]at e;exact nS e
  |some ow=>
   rw[ec]at e;cases e;refine⟨h.led,?_⟩;show Pairwise _ (List.map _ _);rw[pairwise_map,List.pairwise_filterMap];refine List.pairwise_lt_range.imp λ{x y} hxy a ha c hc=>?_;cases h1:ow.getD x Ψ with
   |none=>rw[h1]at ha;exact nS ha
   |some u=>
    cases h2:ow.getD y Ψ with
    |none=>rw[h2]at hc;exact nS hc
    |some u2=>rw[h1]at ha;rw[h2]at hc;cases ha;cases hc;exact hxy
 dsimp only;split;exact h1;exact⟨h.led,zbY _⟩;exact⟨h.led,zbY _⟩
end R
namespace R
open PySem PySem.Spec PyProof.Rows
section
variable{prog:Χ}{w:ϒ}{A:ϔ}{E:Ω->Ι->Prop}{s:Ι}
noncomputable abbrev byT(w:ϒ):Bool:=w.params.followText "set-order"
abbrev SetD(prog:Χ)(w:ϒ)(h:Heap)(a:Addr)(S:Int->Bool)(n:Nat):Prop:=∃o es ep t,h.get? a=Φ o/\o.ExactSet/\o.data=.set es ep t/\ElemsOf (intKind prog w) es.toList/\(∀k,S k=Δ↔∃e∈es.toList,(intKind prog w).is k e.2=Δ)/\es.size<scanBound/\t.fits es.size=Δ/\es.size=n/\TOk (!byT w) t
def SetD.congr(x:SetD prog w h a S n)(e:∀k,S k=S' k)(en:n=n'):SetD prog w h a S' n':=by let⟨o,es,ep,t,h1,h2,h3,h4,h5,h6,h7,h8,h9⟩:=x;exact⟨o,es,ep,t,h1,h2,h3,h4,λk=>by rw[<-e k];exact h5 k,h6,h7,h8.trans en,h9⟩
def SetD.at(x:SetD prog w h a S n)(k:∀o,h.get? a=Φ o->h'.get? a=Φ o):SetD prog w h' a S n:=by let⟨o,es,ep,t,h1,r⟩:=x;exact⟨o,es,ep,t,k o h1,r⟩
def ziY{h:Heap}(ho:h.get? a=Φ o)(hex:o.ExactSet)(hd:o.data=.set es ep t)(g1:ElemsOf (intKind prog w) es'.toList)(g2:∀k,S' k=Δ↔∃e∈es'.toList,(intKind prog w).is k e.2=Δ)(g3:es'.size<scanBound)(g4:t'.fits es'.size=Δ)(g5:TOk (!byT w) t'):
  (h.update a (Obj.putSet es' t')).get? a=Φ {o with data:=.set es' (ep+1) t'}/\SetD prog w (h.update a (Obj.putSet es' t')) a S' es'.size:=by
 let⟨k1,_⟩:=SetOf_store (knd:=intKind prog w) ho hex hd g1 g2 g3 g4;exact⟨k1,_,es',ep+1,t',k1,hex,rfl,g1,g2,g3,g4,rfl,g5⟩
def zsq(hS:SetD prog w s.heap a S n)(hr:n+1<scanBound)(q:∀h' b,Heap.SameBut a s.heap h'->SetD prog w h' a (λz=>S z||decide (z=k)) (if S k then n else n+1)->Q b {s with heap:=h'}):
  wpAny (model prog w) A (setAddHashed a (.int k tk) ((intKind prog w).hash k)) Q E s:=by
 have hkey:(intKind prog w).is k (.int k tk)=Δ:=intKind_is _ _ _ _;let⟨o,es,ep,t,ho,hex,hd,hel,hmem,hb,hf,hn,ht⟩:=hS;unfold setAddHashed setAddHashedIn;refine ϙ (Ξ (Ϡ ho hd hf ?_));dsimp only;rw[byScan_of (knd:=intKind prog w) rfl hb hel];simp![↓reduceIte];unfold setAddByScan;refine Ξ (Ξ (Ϭ (Ξ (wpAny_setScan_of hkey ho hd hf hel ?_))));cases hi:List.findIdx? (λe=>(intKind prog w).is k e.2) es.toList with
 |some j=>let⟨hj,hp,_⟩:=List.findIdx?_eq_some_iff_getElem.mp hi;have hk:S k=Δ:=(hmem k).mpr ⟨_,Ϙ hj,hp⟩;have:=q s.heap Θ (Heap.SameBut.refl _ _) ⟨o,es,ep,t,ho,hex,hd,hel,λz=>?_,hb,hf,by rw[hk];exact hn,ht⟩;exact Λ (Λ this);rw[<-hmem z];by_cases c:z=k;subst c;simp[hk];simp[c]| none=>
  have hk:S k=Θ:=by cases c:S k with|false=>rfl| true=>let⟨e,he,hp⟩:=(hmem k).mp c;have:=List.findIdx?_eq_none_iff.mp hi e he;rw[hp]at this;cases this
  have p1:=layNew_perm t es ((intKind prog w).hash k) (.int k tk);have p2:=layNew_fits t es ((intKind prog w).hash k) (.int k tk);have p3:=zqJ ht es ((intKind prog w).hash k) (.int k tk);dsimp only;generalize layNew t es ((intKind prog w).hash k) (.int k tk)=L at p1 p2 p3⊢;let⟨e1,t1,wd,gv⟩:=L;dsimp only at p1 p2 p3⊢;rw[Array.toList_push]at p1;have m1:ElemsOf (intKind prog w) e1.toList:=(hel.push hkey rfl).perm p1;have m2:∀z,(S z||decide (z=k))=Δ↔∃e∈e1.toList,(intKind prog w).is z e.2=Δ:=mem_push_iff hkey hmem p1;have sz:e1.size=n+1:=by rw[<-length_toList,p1.length_eq,length_append,length_toList,hn];rfl
  have m3:e1.size<scanBound:=by rw[sz];exact hr
  have gw:∀(b:Bool){s₁:Ι}{Q':Unit->Ι->Prop},Q' () s₁->wpAny (model prog w) A (match b with|true=>rule "set.scan.the-table-gave-way"|false=>pure ()) Q' E s₁:=λb s₁ Q' hq=>by cases b<;>first|exact Λ hq|exact Ϭ hq
  refine Ξ (gw _ ?_);have fin:∀h' b,Heap.SameBut a s.heap h'->SetD prog w h' a (λz=>S z||decide (z=k)) e1.size->Q b {s with heap:=h'}:=λh' b hs hD=>q h' b hs (by rw[hk];rw[sz]at hD;exact hD);have tail:∀t2:SetTable,t2.fits e1.size=Δ->TOk (!byT w) t2->wpAny (model prog w) A (do
    storeSet a e1 t2
    if(!wd&&t2.tooFull)=Δ then do
        (match (relayAll t2 e1 (SetTable.grown e1.size)).2.2 with|true=>rule "set.scan.the-table-gave-way"|false=>pure ())
        storeSet a (relayAll t2 e1 (SetTable.grown e1.size)).1 (relayAll t2 e1 (SetTable.grown e1.size)).2.1
        pure (Φ Δ)
     else pure (Φ Δ)) (λr s'=>wpAny (model prog w) A (match r with|some added=>pure added|none=>setAddHashedIn a (.int k tk) ((intKind prog w).hash k) 99999) Q E s') E s:=by
   intro t2 f2 o2;let⟨k1,k2⟩:=ziY (prog:=prog) (w:=w) ho hex hd m1 m2 m3 f2 o2;refine Ξ (wpAny_storeSet_of ho hd ?_ (fits_of_scanBound m3));have sb:=Heap.SameBut.update s.heap a (Obj.putSet e1 t2);split;have r1:=relayAll_perm t2 e1 (SetTable.grown e1.size);have r2:=relayAll_fits t2 e1 (SetTable.grown e1.size);have r3:=zlc o2 e1 (SetTable.grown e1.size);generalize relayAll t2 e1 (SetTable.grown e1.size)=L2 at r1 r2 r3⊢;let⟨e2,t3,g2⟩:=L2;dsimp only at r1 r2 r3⊢;have z2:e2.size=e1.size:=by rw[<-length_toList,r1.length_eq,length_toList]
   refine Ξ (gw _ (Ξ (wpAny_storeSet_of k1 rfl ?_ (fits_of_scanBound (by rw[z2];exact m3)))));let⟨_,k4⟩:=ziY (prog:=prog) (w:=w) k1 hex rfl (m1.perm r1) (λz=>(m2 z).trans ⟨λv=>(by let⟨e,he,qq⟩:=v;exact ⟨e,r1.mem_iff.mpr he,qq⟩),λy=>(by let⟨e,he,qq⟩:=y;exact ⟨e,r1.mem_iff.mp he,qq⟩)⟩) (by rw[z2];exact m3) r2 r3;rw[z2]at k4;exact Λ (Λ (fin _ _ (sb.trans (Heap.SameBut.update _ a _)) k4));exact Λ (Λ (fin _ _ sb k2))
  split;refine Ξ ?_;rw[hashByValue_scannable 8 (show(Ω.int k tk).scannable=Δ from rfl)];exact Λ (tail _ p2 p3);exact Ξ (Λ (tail _ p2 p3))
end
end R
section
set_option maxHeartbeats 8000000
namespace R
open PySem PySem.Spec PyProof.Rows
section
variable{prog:Χ}{w:ϒ}{A:ϔ}{R:Result->Ι->Prop}{I:Addr}{fp wr:List Addr}{G:Array GenState->Array GenState->Prop}{n:Nat}{P:Nat->Ω->Prop}{St:Nat->Ι->Prop}
def zqA(W:WalksS prog w A.in1 I fp wr G n P St)(a)(ha:a∉fp)(val)(hv:∀i v,P i v->∃t,v=.int (val i) t)(hb:n+1<scanBound):
  ∀(m i:Nat)(s:Ι),n-i=m->i<=n->St i s->SetD prog w s.heap a (λz=>(firstMet val i).any (·==z)) (firstMet val i).length->
   (∀s',Moved (a::wr) G s s'->SetD prog w s'.heap a (λz=>(firstMet val n).any (·==z)) (firstMet val n).length->R (.ok (.ret .none)) s')->
   codeAny (model prog w) A (.builtin "set.update.loop" ⟨[.ref a,.ref I],[]⟩) R s:=by
 have aw:a∉wr:=λz=>ha (W.sub _ z);have up:∀b∈wr,b∈a::wr:=λb z=>Ρ _ z;intro m;induction m with
 |zero=>
  intro i s hm hi st hS fin;obtain rfl:i=n:=by lia
  refine Ϟ F.entry_set_update_loop ?_;rw[Ϛ F.plain_set_update_loop _];show wpAny _ A.in1 (pyNext (.ref I)>>=_) _ _ s;refine Ξ (W.done s _ _ st λs' mv=>?_);show wpAny _ A.in1 (ret Ω.none) _ _ s';exact Λ (fin s' (mv.mono up) (hS.at λo e=>mv.heap a o aw e))
 |succ m ih=>
  intro i s hm hi st hS fin;refine Ϟ F.entry_set_update_loop ?_;rw[Ϛ F.plain_set_update_loop _];show wpAny _ A.in1 (pyNext (.ref I)>>=_) _ _ s;refine Ξ (W.item i s _ _ (by lia) st λv s' hP st' mv=>?_);let⟨t,rfl⟩:=hv i v hP;have hS':=hS.at (h':=s'.heap) λo e=>mv.heap a o aw e;show wpAny _ A.in1 (holding [Ω.int (val i) t] (setAdd a (.int (val i) t))>>=_) _ _ s';refine Ξ (ϙ ?_);unfold setAdd;refine ϙ (Ξ ((intKind prog w).pyHash (k:=val i) (intKind_is _ _ _ _) ?_));have room:(firstMet val i).length+1<scanBound:=by have:=firstMet_length_le val i;lia
  refine zsq (s:={s' with toks:=s'.toks+1}) hS' room λh' b sb hS2=>?_;have hS3:SetD prog w h' a (λz=>(firstMet val (i+1)).any (·==z)) (firstMet val (i+1)).length:=hS2.congr (λz=>by rw[firstMet_succ,step_any]) (by rw[firstMet_succ,step_length]);refine Λ ⟨plainId_quiet F.plain_set_update_loop _,ih (i+1) _ (by lia) (by lia) (W.frame _ s' _ _ st' (le_succ _) λb hb o e=>?_) hS3 λs2 mv2 hS4=>?_⟩;rw[sb.2 b λz:b=a=>ha (z▸hb)];exact e;refine fin s2 (Moved.trans W.gtrans ((mv.mono up).then_heap (le_succ _) λb o hb e=>?_) mv2) hS4;rw[sb.2 b λz:b=a=>hb (by rw[z];exact Υ)];exact e
end
section
variable{prog:Χ}{w:ϒ}{A:ϔ}{E:Ω->Ι->Prop}{s:Ι}
noncomputable abbrev sD0(b:Bool):Obj:={cls:=.type "set",dict:=Ψ,data:=.set #[] 0 (.fresh 0 0 b)}
def zqq(a)(h:Q₁ (.ref s.heap.objs.size) {s with heap:=s.heap.push (sD0 (!byT w))}):codeAny (model prog w) A (.call (.builtin "set.__new__") ⟨[.type "set",a],[]⟩) (wants Q₁ E) s:=by
 refine codeAny_of_tree ?_;show wpAny _ A.in1 (do checkBuiltinCall "set.__new__" ⟨[.type "set",a],[]⟩;again (.builtin "set.__new__" ⟨[.type "set",a],[]⟩)) _ _ s;refine Ξ (wpAny_of_eq (F.newCall_set_1 a) (Λ ⟨plainId_quiet F.plain_set_new _,Ϟ F.entry_set_new ?_⟩));rw[Ϛ F.plain_set_new _];unfold Builtin.«set.__new__» Builtin.Frozenset.newClass;have q:=sub_set_self;let⟨x1,x2,x3,x4,x5⟩:=s;dsimp only
 wp_walk
 refine wpAny_askSetting (Λ ?_);dsimp only;simp![newObj];exact Ξ (wpAny_alloc (Λ (Λ h)))
def zi5(hc:A.handled=Ψ)(hl:s.heap.IsList l its)(hi:IntsAre its.toList ms)(hb:its.size+1<scanBound)(fin:∀(g:Heap)(tk:Nat),SetD prog w g s.heap.objs.size (λz=>(firstMet (λi=>ms.getD i 0) its.size).any (·==z)) (firstMet (λi=>ms.getD i 0) its.size).length->
   (∀b o,b<s.heap.objs.size->s.heap.get? b=Φ o->g.get? b=Φ o)->Q (.ref s.heap.objs.size) {s with heap:=g,toks:=tk}):wpAny (model prog w) A (call (.type "set") [.ref l]) Q E s:=by
 let⟨mc,mt,hmro⟩:=F.called_set.mro;have c1:=F.called_set.made;have c2:=F.called_set.sub;refine wpAny_call (codeAny_of_tree ?_);show wpAny _ _ (callAny (.type "set") _) _ _ _;refine Λ ⟨Code.quiet_builtin _ (by decide +kernel),Ϟ F.entry_type_call ?_⟩;rw[ϔ.under_plain (weight_type_call_type "set" [.ref l] []) rfl];have c3:=F.called_set.notType;have c4:=F.called_set.canCreate;have c5:=F.typeCall_set_1 (.ref l)
 repeat (any_goals (first|assumption|wp_step))
 refine ϩ (zqq (.ref l) (E:=E) (Q₁:=λo z=>o=.ref s.heap.objs.size/\z={s with heap:=s.heap.push (sD0 (!byT w))}) ⟨rfl,rfl⟩) λr z hr=>?_;cases r with
 |error e=>exact hr| ok fl=>
  cases fl with
  |ret o=>
   let⟨rfl,rfl⟩:=hr;have g0:(s.heap.push (sD0 (!byT w))).get? s.heap.objs.size=Φ (sD0 (!byT w)):=Μ _ rfl;have g1:Ι.TypeIs {s with heap:=s.heap.push (sD0 (!byT w))} (.ref s.heap.objs.size) "set":=⟨_,g0,rfl⟩;have c6:=F.called_set.init.lookup;have c7:=F.called_set.init.bind (.ref s.heap.objs.size)
   repeat (any_goals (first|assumption|wp_step))
   refine ϩ (codeAny_call_builtin (R:=wants (λr z=>r=.none/\∃g tk,z={s with heap:=g,toks:=tk}/\
    SetD prog w g s.heap.objs.size (λz=>(firstMet (λi=>ms.getD i 0) its.size).any (·==z)) (firstMet (λi=>ms.getD i 0) its.size).length/\
    (∀b o,b<s.heap.objs.size->s.heap.get? b=Φ o->g.get? b=Φ o)) E) F.called_set.init.plain F.entry_set_init (check_set_init_1 g1 ?_)) λr2 z2 hr2=>?_
   . let⟨⟨oc,od,oda,osl⟩,ho,hcl,nl,hda⟩:=id hl;simp only at hcl hda;subst hcl hda;have ho':(s.heap.push (sD0 (!byT w))).get? l=Φ {cls:=.type "list",dict:=od,data:=.seq its nl,slots:=osl}:=Α _ ho;have d1:=F.sub_list_set;have d2:=F.sub_list_frozenset;have d3:(Ω.type "list" == Ω.type "dict")=Θ:=by decide
     have ht1:(s.heap.push (sD0 (!byT w))).IsList l its:=⟨_,ho',rfl,nl,rfl⟩;unfold Builtin.«set.__init__» noKeywords Builtin.Frozenset.updateFrom;generalize hPI:pyIter=PI
     wp_walk
     subst hPI;refine wpAny_pyIter_list ht1 ?_;refine Ξ (wpAny_runValue ?_);have tl:l<s.heap.objs.size:=Ν ho;have tn:l≠(s.heap.push (sD0 (!byT w))).objs.size:=by rw[ϓ];exact ne_of_lt (ϥ tl)
     have sn:s.heap.objs.size∉[(s.heap.push (sD0 (!byT w))).objs.size,l]:=by rw[ϓ];simp![mem_cons,not_mem_nil,or_false,not_or];exact⟨ne_of_lt (Ϫ _),ne_of_gt tl⟩
     refine zqA ((Walks.list (by simp[hc]) _ l tn its).toS) s.heap.objs.size sn (λi=>ms.getD i 0) (λi v hv=>IntsAre.int_at hi i v (by rw[ϋ];exact hv)) hb (its.size-0) 0 _ (by lia) (zero_le _)
      ⟨⟨_,Μ _ rfl,rfl,rfl⟩,ht1.push _⟩ ?start ?last
     case start=>exact⟨_,#[],0,_,Α _ g0,⟨rfl,rfl,rfl⟩,rfl,λe he=>by simp at he,λk=>by simp[firstMet],by decide,by rfl,rfl,rfl,Pairwise.nil⟩
     case last=>rintro⟨g,gg,dd,tk,oo⟩ mv hS;obtain rfl:gg=s.gens:=mv.gens;obtain rfl:dd=s.drawn:=mv.drawn;obtain rfl:oo=s.os:=mv.os;show wpAny _ _ _ _ _ _;refine Λ ?_;show wpAny _ _ (ret Ω.none) _ _ _;refine Λ ⟨rfl,g,tk,rfl,hS,λb o hb e=>mv.heap b o ?_ (Α _ (Α _ e))⟩;rw[ϓ];simp![mem_cons,not_mem_nil,or_false,not_or];exact⟨ne_of_lt hb,ne_of_lt (ϥ hb)⟩
   cases r2 with
   |error e=>exact hr2| ok f2=>
    cases f2 with
    |ret r=>
     let⟨rfl,g,tk,rfl,hS,hk⟩:=hr2
     repeat (any_goals (first|assumption|wp_step))
     exact fin _ _ hS hk
    |_=>exact hr2.elim
  |_=>exact hr.elim
end
end R
end
namespace R
open PySem PySem.Spec PyProof.Rows
def zf5:entryFor table "set.__iter__"=Φ Builtin.«frozenset.__iter__»:=entryFor_alias (id':="frozenset.__iter__") (by kernel_rfl) rfl (by decide +kernel) (by kernel_rfl)
def slot_sit_next:Slot "set_iterator" "__next__" "set_iterator.__next__":=.of (owner:="set_iterator") (n:="__next__") (by rw[typeLookup_type,builtinLookup_eq_fast];kernel_rfl) (by decide +kernel) (by decide +kernel) (by decide +kernel) (by first|exact .inl (by decide +kernel)|exact .inr (by decide +kernel)) (by rw[isSubtype_type];kernel_rfl)
def zbM:entryFor table "set_iterator.__next__"=Φ Builtin.«set_iterator.__next__»:=entryFor_of_fast (by kernel_rfl)
def zbv(a):argsOk "set_iterator.__next__" ⟨[a],[]⟩:=by unfold argsOk;kernel_rfl
def zaE:Slot "set_iterator" "__iter__" "set_iterator.__iter__":=.of (owner:="set_iterator") (n:="__iter__") (by rw[typeLookup_type,builtinLookup_eq_fast];kernel_rfl) (by decide +kernel) (by decide +kernel) (by decide +kernel) (by first|exact .inl (by decide +kernel)|exact .inr (by decide +kernel)) (by rw[isSubtype_type];kernel_rfl)
def zbN:entryFor table "set_iterator.__iter__"=Φ Builtin.«dict_keyiterator.__iter__»:=entryFor_alias (id':="dict_keyiterator.__iter__") (by kernel_rfl) rfl (by decide +kernel) (by kernel_rfl)
def zbw(a):argsOk "set_iterator.__iter__" ⟨[a],[]⟩:=by unfold argsOk;kernel_rfl
section
variable{prog:Χ}{w:ϒ}{A:ϔ}{E:Ω->Ι->Prop}{s:Ι}{a j:Addr}{o:Obj}{es:Array (Int×Ω)}{ep:Nat}{t:SetTable}
def ziA(hn:n≠0)(h:∀i d',i<n->wpAny M A (k i) Q E {s with drawn:=d'}):wpAny M A (.choose src n k) Q E s:=λΓ p hΓ=>by rw[Sem.wp_choose];exact⟨hn,h _ _ (Nat.mod_lt _ (Nat.pos_of_ne_zero hn)) Γ p hΓ⟩
def erase_perm{α:Type}:∀(l:List α)(j:Nat)(h:j<l.length),(l[j]::l.eraseIdx j).Perm l
 |x::l,0,h=>List.Perm.refl _| x::l,j+1,h=>by
  have hj:j<l.length:=by simpa using h
  have ih:=erase_perm l j hj;show(l[j]::x::l.eraseIdx j).Perm (x::l);exact(List.Perm.swap _ _ _).trans (ih.cons x)
def zhG:∀(n:Nat)(xs:List α){s:Ι}{Q:List α->Ι->Prop},xs.length=n->(∀ys d',ys.Perm xs->Q ys {s with drawn:=d'})->wpAny (model prog w) A (drawOrder n xs) Q E s
 |0,xs,s,Q,hl,h=>by cases List.length_eq_zero_iff.mp hl;exact Λ (h [] s.drawn (List.Perm.refl _))|n+1,[],s,Q,hl,h=>by cases hl| n+1,x::xs,s,Q,hl,h=>by unfold drawOrder;refine Ξ (ziA (by simp) λi d' hi=>Λ ?_);rw[Η hi];dsimp only;refine Ξ (zhG n _ (by rw[List.length_eraseIdx_of_lt hi];simp at hl⊢;exact hl) λys d2 hp=>Λ (h _ d2 ?_));exact(hp.cons _).trans (erase_perm _ _ hi)
def zjr(f):∀(n k:Nat)(left:List α)(out:Array α),left.length=n->(pickOrder.go f n k left out).toList.Perm (out.toList++left)
 |0,k,left,out,hl=>by cases List.length_eq_zero_iff.mp hl;unfold pickOrder.go;rw[append_nil]| n+1,k,left,out,hl=>by unfold pickOrder.go;have hi:f k%left.length<left.length:=Nat.mod_lt _ (by lia);rw[Η hi];dsimp only;refine(zjr f n (k+1) _ _ (by rw[List.length_eraseIdx_of_lt hi];lia)).trans ?_;rw[Array.toList_push,append_assoc];exact List.Perm.append_left _ (erase_perm _ _ hi)
def zjq(f)(xs:Array α):(pickOrder f xs).toList.Perm xs.toList:=by have:=zjr f xs.size 0 xs.toList #[] (by simp);simpa[pickOrder]using this
abbrev SIt(h:Heap)(j a:Addr)(f:Ω)(i n ep:Nat):Prop:=h.get? j=Φ {cls:=.type "set_iterator",dict:=Ψ,data:=.fields #[f,rawInt i,.ref a,rawInt n,rawInt ep],slots:=#[]}
def zg9{f f' i:Nat}(ht:SIt s.heap j a (rawInt f) i es.size ep)(ho:s.heap.get? a=Φ o)(hd:o.data=.set es ep t)(hf:t.fits es.size=Δ)(hx:∀(A:ϔ)(E:Ω->Ι->Prop)(Q':Option (Ω×Nat)->Ι->Prop),Q' (Φ (x,f')) s->wpAny (model prog w) A (setNext a f i ep) Q' E s)(q:∀h',SIt h' j a (rawInt f') (i+1) es.size ep->Heap.SameBut j s.heap h'->Q (Φ x) {s with heap:=h'}):wpAny (model prog w) A (pyNext (.ref j)) Q E s:=by
 have ty:s.TypeIs (.ref j) "set_iterator":=⟨_,ht,rfl⟩;unfold pyNext;refine Ξ (wpAny_attempt (Ϝ (name:=Str.ofString "__next__") ty slot_sit_next (ύ slot_sit_next ty zbM ?_ (zbv _))));unfold Builtin.«set_iterator.__next__»;refine Ξ (m:=slotArgs "__next__" 0 _) (Λ ?_);refine Ξ (wpAny_fieldsOf ht rfl ?_);show wpAny _ _ (setEntries a>>=_) _ _ s;refine Ξ (wpAny_setEntries_of ho hd hf ?_);rw[if_neg (by simp)];refine Ξ (hx _ _ _ ?_);refine Ξ (wpAny_setField_rec ht (by simp) λh1 g1 s1=>?_);refine Ξ (wpAny_setField_rec (s:={s with heap:=h1}) g1 (by simp) λh2 g2 s2=>?_);exact Λ ⟨_,rfl,Λ (q h2 g2 (s1.trans s2))⟩
def zi2(hh:A.handled=Ψ)(ht:SIt s.heap j a f i es.size ep)(ho:s.heap.get? a=Φ o)(hd:o.data=.set es ep t)(hf:t.fits es.size=Δ)(hx:∀(A:ϔ)(E:Ω->Ι->Prop)(Q':Fin->Ι->Prop),A.handled=Ψ->(∀h' e,Heap.ExtBut j s.heap h'->(∃oe,h'.get? e=Φ oe/\oe.cls=.type "StopIteration")->E (.ref e) {s with heap:=h'})->wpAny (model prog w) A (Builtin.«set_iterator.__next__» ⟨[.ref j],[]⟩) Q' E s)(q:∀h',Heap.ExtBut j s.heap h'->Q Ψ {s with heap:=h'}):wpAny (model prog w) A (pyNext (.ref j)) Q E s:=by
 have ty:s.TypeIs (.ref j) "set_iterator":=⟨_,ht,rfl⟩;unfold pyNext;refine Ξ (wpAny_attempt (Ϝ (name:=Str.ofString "__next__") ty slot_sit_next (ύ slot_sit_next ty zbM ?_ (zbv _))));refine hx _ _ _ hh λh' e k z=>?_;let⟨oe,he,hc⟩:=z;refine Ξ (ϭ (b:=Δ) (T:="StopIteration") ⟨oe,he,hc⟩ isSubtype_stop ?_);exact Λ (q h' k)
def zee(hh:A.handled=Ψ)(k0:Heap.ExtBut j s.heap s'.heap)(es':s'={s with heap:=s'.heap})(h:∀h' e,Heap.ExtBut j s.heap h'->(∃oe,h'.get? e=Φ oe/\oe.cls=.type "StopIteration")->E (.ref e) {s with heap:=h'}):
  wpAny (model prog w) A (do raiseNew (<-newExc (.type "StopIteration") []):Sem Fin) Q' E s':=by
 rw[es'];refine Ξ ?_;simp![newExc,newTuple];refine Ξ (ό ?_ (by size_fits));refine Ξ (m:=firstArgMember _ _) (wpAny_of_eq (a:=Ω.none) (by first|rfl|(simp![firstArgMember];rfl)) (ό ?_ (by size_fits)));simp![raiseNew];refine Ξ (wpAny_handled ?_);rw[hh];exact Ξ (Λ (wpAny_throw (h _ _ ((k0.push _).push _) ⟨_,Μ _ rfl,rfl⟩)))
def zha{f i:Nat}(hh:A.handled=Ψ)(ht:SIt s.heap j a (rawInt f) i es.size ep)(ho:s.heap.get? a=Φ o)(hd:o.data=.set es ep t)(hf:t.fits es.size=Δ)(hx:∀(A:ϔ)(E:Ω->Ι->Prop)(Q':Option (Ω×Nat)->Ι->Prop),Q' Ψ s->wpAny (model prog w) A (setNext a f i ep) Q' E s)(q:∀h',Heap.ExtBut j s.heap h'->Q Ψ {s with heap:=h'}):wpAny (model prog w) A (pyNext (.ref j)) Q E s:=by
 refine zi2 hh ht ho hd hf (λA E Q' hA hE=>?_) q;unfold Builtin.«set_iterator.__next__»;refine Ξ (m:=slotArgs "__next__" 0 _) (Λ ?_);refine Ξ (wpAny_fieldsOf ht rfl ?_);show wpAny _ _ (setEntries a>>=_) _ _ s;refine Ξ (wpAny_setEntries_of ho hd hf ?_);rw[if_neg (by simp)];refine Ξ (hx _ _ _ ?_);refine Ξ (wpAny_setField_rec ht (by simp) λh1 g1 s1=>?_);exact zee (s:=s) (s':={s with heap:=h1}) hA s1.extBut rfl hE
abbrev PTg(h:Heap)(tp:Addr)(ps:List Nat):Prop:=h.get? tp=Φ {cls:=.type "tuple",data:=.seq (ps.map λ(p:Nat)=>rawInt p).toArray}
def zi1(ht:SIt s.heap j a (.ref tp) i es.size ep)(ho:s.heap.get? a=Φ o)(hd:o.data=.set es ep t)(hf:t.fits es.size=Δ)(hp:PTg s.heap tp ps)(hi:ps[i]?=Φ p)(hx:es[p]?=Φ (hs,x))(q:∀h',SIt h' j a (.ref tp) (i+1) es.size ep->Heap.SameBut j s.heap h'->Q (Φ x) {s with heap:=h'}):wpAny (model prog w) A (pyNext (.ref j)) Q E s:=by
 have ty:s.TypeIs (.ref j) "set_iterator":=⟨_,ht,rfl⟩;unfold pyNext;refine Ξ (wpAny_attempt (Ϝ (name:=Str.ofString "__next__") ty slot_sit_next (ύ slot_sit_next ty zbM ?_ (zbv _))));unfold Builtin.«set_iterator.__next__»;refine Ξ (m:=slotArgs "__next__" 0 _) (Λ ?_);refine Ξ (wpAny_fieldsOf ht rfl ?_);show wpAny _ _ (setEntries a>>=_) _ _ s;refine Ξ (wpAny_setEntries_of ho hd hf ?_);rw[if_neg (by simp)];refine Ξ (Ϧ hp rfl ?_);have e1:(ps.map λ(p:Nat)=>rawInt p).toArray[i]?=Φ (rawInt p):=by simp[hi]
 show wpAny _ _ (match (ps.map λ(p:Nat)=>rawInt p).toArray[i]? with|some (.int place _)=>_|some _=>_|none=>_) _ _ s;rw[e1];show wpAny _ _ (setNextDrawn a p ep>>=_) _ _ s;unfold setNextDrawn;refine Ξ (Ξ (Ϡ ho hd hf ?_));dsimp only;rw[if_neg (by simp),hx];refine Λ ?_;refine Ξ (wpAny_setField_rec ht (by simp) λh1 g1 s1=>?_);exact Λ ⟨_,rfl,Λ (q h1 g1 s1)⟩
def zkW(hh:A.handled=Ψ)(ht:SIt s.heap j a (.ref tp) i es.size ep)(ho:s.heap.get? a=Φ o)(hd:o.data=.set es ep t)(hf:t.fits es.size=Δ)(hp:PTg s.heap tp ps)(hi:ps.length<=i)(q:∀h',Heap.ExtBut j s.heap h'->Q Ψ {s with heap:=h'}):wpAny (model prog w) A (pyNext (.ref j)) Q E s:=by
 refine zi2 hh ht ho hd hf (λA E Q' hA hE=>?_) q;unfold Builtin.«set_iterator.__next__»;refine Ξ (m:=slotArgs "__next__" 0 _) (Λ ?_);refine Ξ (wpAny_fieldsOf ht rfl ?_);show wpAny _ _ (setEntries a>>=_) _ _ s;refine Ξ (wpAny_setEntries_of ho hd hf ?_);rw[if_neg (by simp)];refine Ξ (Ϧ hp rfl ?_);have e1:(ps.map λ(p:Nat)=>rawInt p).toArray[i]?=Ψ:=by simp;exact hi
 show wpAny _ _ (match (ps.map λ(p:Nat)=>rawInt p).toArray[i]? with|some (.int place _)=>_|some _=>_|none=>_) _ _ s;rw[e1];refine Ξ (wpAny_setField_rec ht (by simp) λh1 g1 s1=>?_);refine Ξ (wpAny_setField_rec (s:={s with heap:=h1}) g1 (by simp) λh2 g2 s2=>?_);exact zee (s:=s) (s':={s with heap:=h2}) hA (s1.trans s2).extBut rfl hE
def zmp(hb:byT w=Δ)(ho:s.heap.get? a=Φ o)(hd:o.data=.set es ep t)(hf:t.fits es.size=Δ)(q:Q ((pickOrder (w.params.setOrder a ep) es)[i]?.map λe=>(e.2,f)) s):wpAny (model prog w) A (setNext a f i ep) Q E s:=by
 unfold setNext;refine Ξ (Ϡ ho hd hf ?_);dsimp only;unfold setsByText;refine Ξ (Ξ (wpAny_askSetting (Λ ?_)));rw[if_pos (show(model prog w).w.params.followText "set-order"=Δ from hb)];rw[if_neg (by simp)];unfold setWalk;refine Ξ (Ξ (Ϡ ho hd hf ?_));dsimp only;unfold setsByText;refine Ξ (Ξ (wpAny_askSetting (Λ ?_)));rw[if_pos (show(model prog w).w.params.followText "set-order"=Δ from hb)];exact Ξ (wpAny_askSetting (Λ (Λ q)))
def zmq(hb:byT w=Θ)(ho:s.heap.get? a=Φ o)(hd:o.data=.set es ep t)(hf:t.fits es.size=Δ)(hl:t.led=Δ)(hp:(!t.plain&&decide (es.size>1))=Θ)(q:Q (match es[SetTable.below t.place f]?,t.place[SetTable.below t.place f]? with|some (_,x),Φ j=>Φ (x,j+1)|_,_=>Ψ) s):wpAny (model prog w) A (setNext a f i ep) Q E s:=by
 unfold setNext;refine Ξ (Ϡ ho hd hf ?_);dsimp only;unfold setsByText;refine Ξ (Ξ (wpAny_askSetting (Λ ?_)));rw[if_neg (show ¬(model prog w).w.params.followText "set-order"=Δ by rw[show(model prog w).w.params.followText "set-order"=byT w from rfl,hb];decide)];show wpAny _ _ (if(!t.plain&&decide (es.size>1))=Δ then _ else _) _ _ s;rw[if_neg (by rw[hp];decide)];show wpAny _ _ ((if(!t.led&&!es.isEmpty)=Δ then unsupported "set:maker-not-led" else pure ())>>=_) _ _ s;rw[if_neg (by rw[hl];simp)];exact Ξ (Λ (Λ q))
@[reducible]def YP(vals:List Ω):Nat->Ω->Prop:=λi v=>vals[i]?=Φ v
def zoN(hh:A.handled=Ψ)(hne:a≠j)(hb:byT w=Δ)(hd:o.data=.set es ep t)(hf:t.fits es.size=Δ) :
  Walks prog w A j [j,a] [j] ((pickOrder (w.params.setOrder a ep) es).toList.map (·.2)).length (YP ((pickOrder (w.params.setOrder a ep) es).toList.map (·.2))) (λi h=>SIt h j a (rawInt 0) i es.size ep/\h.get? a=Φ o) where
 sub:=λb hb=>by simp at hb;simp[hb]
 frame:=λ_ _ _ st hk=>⟨hk j (by simp) _ st.1,hk a (by simp) _ st.2⟩
 item:=λi s Q E hi st hQ=>by
  have hi':i<(pickOrder (w.params.setOrder a ep) es).size:=by simpa using hi
  refine zg9 (x:=(pickOrder (w.params.setOrder a ep) es)[i].2) (f':=0) st.1 st.2 hd hf (λA E Q' q=>zmp hb st.2 hd hf (by rw[ϐ hi'];exact q)) λh' g sb=>?_;exact hQ _ h' s.toks (by simp[YP,hi']) ⟨g,sb.extBut a _ hne st.2⟩ λb o hb e=>sb.extBut b o (λz=>hb (by simp[z])) e
 done:=λs Q E st hQ=>by
  have hi':(pickOrder (w.params.setOrder a ep) es).size<=((pickOrder (w.params.setOrder a ep) es).toList.map (·.2)).length:=by simp
  exact zha hh st.1 st.2 hd hf (λA E Q' q=>zmp hb st.2 hd hf (by rw[Array.getElem?_eq_none hi'];exact q)) λh' k=>hQ h' s.toks λb o hb e=>k b o (λz=>hb (by simp[z])) e
 self:=λi s Q E st hQ=>by have ty:s.TypeIs (.ref j) "set_iterator":=⟨_,st.1,rfl⟩;refine wpAny_pyIter_slot ty zaE (ύ zaE ty zbN ?_ (zbw _));show wpAny _ _ (ret (.ref j)) _ _ s;exact Λ ⟨_,rfl,"set_iterator",_,ty,slot_sit_next.lookup,hQ⟩
abbrev zg8(t:SetTable):Nat->Nat
 |0=>0|i+1=>t.place.getD i 0+1
def zeg(h:Rise t.place)(hi:i<=t.place.size):SetTable.below t.place (zg8 t i)=i:=by
 cases i with
 |zero=>exact zeE h| succ i=>
  have hi':i<t.place.size:=by lia
  show SetTable.below t.place (t.place.getD i 0+1)=_;rw[show t.place.getD i 0=t.place[i] by simp[Array.getD,hi']];exact zeF h hi'
def zoO(hh:A.handled=Ψ)(hne:a≠j)(hb:byT w=Θ)(hd:o.data=.set es ep t)(hf:t.fits es.size=Δ)(ht:TOk (!byT w) t)(hp:(!t.plain&&decide (es.size>1))=Θ) :
  Walks prog w A j [j,a] [j] (es.toList.map (·.2)).length (YP (es.toList.map (·.2))) (λi h=>i<=es.size/\SIt h j a (rawInt (zg8 t i)) i es.size ep/\h.get? a=Φ o) where
 sub:=λb hb=>by simp at hb;simp[hb]
 frame:=λ_ _ _ st hk=>⟨st.1,hk j (by simp) _ st.2.1,hk a (by simp) _ st.2.2⟩
 item:=λi s Q E hi st hQ=>by
  have hi':i<es.size:=by simpa using hi
  have hz:t.place.size=es.size:=by simp![SetTable.fits,Β,beq_iff_eq]at hf;exact hf.1
  have hl:t.led=Δ:=by rw[ht.led,hb];rfl
  have hpl:t.place[i]?=Φ t.place[i]:=ϐ (by omega);refine zg9 (x:=es[i].2) (f':=zg8 t (i+1)) st.2.1 st.2.2 hd hf (λA E Q' q=>zmq hb st.2.2 hd hf hl hp ?_) λh' g sb=>?_;rw[zeg ht.rise (by omega),ϐ hi',hpl];have:zg8 t (i+1)=t.place[i]+1:=by show t.place.getD i 0+1=_;simp[Array.getD,show i<t.place.size by omega]
  rw[this]at q;exact q;exact hQ _ h' s.toks (by simp[YP,hi']) ⟨hi',g,sb.extBut a _ hne st.2.2⟩ λb o hb e=>sb.extBut b o (λz=>hb (by simp[z])) e
 done:=λs Q E st hQ=>by
  have hz:t.place.size=es.size:=by simp![SetTable.fits,Β,beq_iff_eq]at hf;exact hf.1
  have hl:t.led=Δ:=by rw[ht.led,hb];rfl
  have hn:(es.toList.map (·.2)).length=es.size:=by simp
  rw[hn]at st;refine zha hh st.2.1 st.2.2 hd hf (λA E Q' q=>zmq hb st.2.2 hd hf hl hp ?_) λh' k=>hQ h' s.toks λb o hb e=>k b o (λz=>hb (by simp[z])) e;rw[zeg ht.rise (by omega),Array.getElem?_eq_none (le_refl _)];exact q
 self:=λi s Q E st hQ=>by have ty:s.TypeIs (.ref j) "set_iterator":=⟨_,st.2.1,rfl⟩;refine wpAny_pyIter_slot ty zaE (ύ zaE ty zbN ?_ (zbw _));show wpAny _ _ (ret (.ref j)) _ _ s;exact Λ ⟨_,rfl,"set_iterator",_,ty,slot_sit_next.lookup,hQ⟩
abbrev zgK(es:Array (Int×Ω))(ps:List Nat):List Ω:=ps.map λp=>(es.getD p (0,.none)).2
def zoP{tp:Addr}{ps:List Nat}(hh:A.handled=Ψ)(hne:a≠j)(hnt:tp≠j)(hd:o.data=.set es ep t)(hf:t.fits es.size=Δ)(hp:∀p∈ps,p<es.size) :
  Walks prog w A j [j,a,tp] [j] (zgK es ps).length (YP (zgK es ps)) (λi h=>SIt h j a (.ref tp) i es.size ep/\h.get? a=Φ o/\PTg h tp ps) where
 sub:=λb hb=>by simp at hb;simp[hb]
 frame:=λ_ _ _ st hk=>⟨hk j (by simp) _ st.1,hk a (by simp) _ st.2.1,hk tp (by simp) _ st.2.2⟩
 item:=λi s Q E hi st hQ=>by
  have hi':i<ps.length:=by simpa[zgK]using hi
  have hpi:ps[i]<es.size:=hp _ (Ϙ hi');refine zi1 (p:=ps[i]) (hs:=es[ps[i]].1) (x:=es[ps[i]].2) st.1 st.2.1 hd hf st.2.2 (Η hi') (ϐ hpi) λh' g sb=>?_;exact hQ _ h' s.toks (by simp[YP,zgK,hi',Array.getD,hpi]) ⟨g,sb.extBut a _ hne st.2.1,sb.extBut tp _ hnt st.2.2⟩ λb o hb e=>sb.extBut b o (λz=>hb (by simp[z])) e
 done:=λs Q E st hQ=>zkW hh st.1 st.2.1 hd hf st.2.2 (by simp[zgK]) λh' k=>hQ h' s.toks λb o hb e=>k b o (λz=>hb (by simp[z])) e
 self:=λi s Q E st hQ=>by have ty:s.TypeIs (.ref j) "set_iterator":=⟨_,st.1,rfl⟩;refine wpAny_pyIter_slot ty zaE (ύ zaE ty zbN ?_ (zbw _));show wpAny _ _ (ret (.ref j)) _ _ s;exact Λ ⟨_,rfl,"set_iterator",_,ty,slot_sit_next.lookup,hQ⟩
def zln(es)(h:ps.Perm (List.range es.size)):(zgK es ps).Perm (es.toList.map (·.2)):=by unfold zgK;refine(h.map _).trans (List.Perm.of_eq ?_);apply ext_getElem?;intro i;by_cases c:i<es.size;simp[c,Array.getD];simp[c]
end
section
variable{prog:Χ}{w:ϒ}{A:ϔ}{E:Ω->Ι->Prop}{s:Ι}{a:Addr}{o:Obj}{es:Array (Int×Ω)}{ep:Nat}{t:SetTable}
structure Got(prog:Χ)(w:ϒ)(h0 h':Heap)(a:Addr)(vals:List Ω)(I:Addr)(fp:List Addr)(St:Nat->Heap->Prop):Prop where
 wk:∀A:ϔ,A.handled=Ψ->Walks prog w A I fp [I] vals.length (YP vals) St
 st:St 0 h'
 old:∀b o,h0.get? b=Φ o->h'.get? b=Φ o
 new:h0.objs.size<=I
 lt:I<h'.objs.size
 fp:∀b∈fp,b=a\/(h0.objs.size<=b/\b<h'.objs.size)
def zkY(ho:s.heap.get? a=Φ o)(hex:o.ExactSet)(hd:o.data=.set es ep t)(hf:t.fits es.size=Δ)(ht:TOk (!byT w) t)(hz:es.size<scanBound)(q:∀(h':Heap)(d':Drawn)(I:Addr)(fp:List Addr)(St:Nat->Heap->Prop)(vals:List Ω),vals.Perm (es.toList.map (·.2))->Got prog w s.heap h' a vals I fp St->Q (.ref I) {s with heap:=h',drawn:=d'}):
  wpAny (model prog w) A (pyIter (.ref a)) Q E s:=by
 have ty:s.TypeIs (.ref a) "set":=⟨_,ho,hex.1⟩;have al:=Ν ho;refine wpAny_pyIter_slot ty F.slot_set_iter (ύ F.slot_set_iter ty zf5 ?_ (F.args_set_iter_1 _));unfold Builtin.«frozenset.__iter__»;refine Ξ (m:=Builtin.Frozenset.slot0 "__iter__" _) (Λ ?_);unfold Builtin.Frozenset.sizeOf;refine Ξ (Ξ (wpAny_setEntries_of ho hd hf (Λ ?_)));unfold setDrawn;refine Ξ (Ξ (Ϡ ho hd hf ?_));dsimp only;unfold setsByText;refine Ξ (Ξ (wpAny_askSetting (Λ (Λ ?_))));show wpAny _ _ (if(!byT w&&(!t.plain&&decide (es.size>1)))=Δ then _ else _) _ _ s;have mk:∀(h1:Heap)(d':Drawn)(fst:Ω),(∀b o,s.heap.get? b=Φ o->h1.get? b=Φ o)->s.heap.objs.size<=h1.objs.size->
   (∀h',h'.objs.size=h1.objs.size+1->(∀b o,h1.get? b=Φ o->h'.get? b=Φ o)->SIt h' h1.objs.size a fst 0 es.size ep->∃fp St vals,vals.Perm (es.toList.map (·.2))/\Got prog w s.heap h' a vals h1.objs.size fp St)->
   wpAny (model prog w) A.in1 (do ret (<-newFields "set_iterator" [fst,rawInt 0,.ref a,rawInt es.size,rawInt (<-setEpoch a)])) (λfin s'=>∃v,fin=.done (.ret v)/\∃T id,s'.TypeIs v T/\typeLookup (.type T) "__next__"=pure (Φ id)/\Q v s') E {s with heap:=h1,drawn:=d'}:=by
  intro h1 d' fst hk hz1 hG;refine Ξ (wpAny_setEpoch_of (s:={s with heap:=h1,drawn:=d'}) (hk _ _ ho) hd hf ?_);refine Ξ (ό (Λ ⟨_,rfl,"set_iterator",_,⟨_,Μ _ rfl,rfl⟩,slot_sit_next.lookup,?_⟩));let⟨fp,St,vals,hp,hG⟩:=hG (h1.push {cls:=.type "set_iterator",data:=.fields #[fst,rawInt 0,.ref a,rawInt es.size,rawInt ep]}) (ϓ ..) (λb o e=>Α _ e) (Μ _ rfl);exact q _ d' _ fp St vals hp hG
 by_cases hb:byT w=Δ;rw[if_neg (by rw[hb];simp)];refine Ξ (Λ ?_);refine mk s.heap s.drawn (rawInt 0) (λb o e=>e) (le_refl _) λh' hsz hk hit=>⟨[s.heap.objs.size,a],_,_,(zjq _ es).map _,⟨λA hA=>zoN hA (ne_of_lt al) hb hd hf,⟨hit,hk _ _ ho⟩,hk,le_refl _,by rw[hsz];exact Ϫ _,λb hb=>?_⟩⟩;simp![mem_cons,not_mem_nil,or_false]at hb;rcases hb with z|z;exact .inr ⟨le_of_eq z.symm,by rw[z,hsz];exact Ϫ _⟩;exact .inl z;have hb:byT w=Θ:=by simpa using hb
 by_cases hp:(!t.plain&&decide (es.size>1))=Δ;rw[if_pos (by rw[hb,hp];rfl)];refine Ξ (zhG es.size (List.range es.size) (by simp) λys d' hperm=>?_);have hys:ys.length<=sizeLine:=by rw[hperm.length_eq,length_range];exact fits_of_scanBound hz
 unfold newTuple;refine Ξ (ό ?_ (by show(List.map (λ(i:Nat)=>rawInt i) ys).toArray.size<=sizeLine;simpa using hys));have hps:∀p∈ys,p<es.size:=λp hp=>mem_range.mp (hperm.mem_iff.mp hp);refine mk (s.heap.push {cls:=.type "tuple",data:=.seq (ys.map λ(i:Nat)=>rawInt i).toArray}) d' (.ref s.heap.objs.size) (λb o e=>Α _ e) (by rw[ϓ];lia) λh' hsz hk hit=>?_;have z1:(s.heap.push {cls:=.type "tuple",data:=.seq (ys.map λ(i:Nat)=>rawInt i).toArray}).objs.size=s.heap.objs.size+1:=ϓ ..;rw[z1]at hit hsz⊢;refine⟨[s.heap.objs.size+1,a,s.heap.objs.size],_,_,zln es hperm,⟨λA hA=>zoP hA (ne_of_lt (ϥ al)) (ne_of_lt (Ϫ _)) hd hf hps,⟨hit,hk _ _ (Α _ ho),hk _ _ (Μ _ rfl)⟩,λb o e=>hk _ _ (Α _ e),le_succ _,by rw[hsz];exact Ϫ _,λb hb=>?_⟩⟩;simp![mem_cons,not_mem_nil,or_false]at hb;rcases hb with z|z|z;exact .inr ⟨by rw[z];exact le_succ _,by rw[z,hsz];exact Ϫ _⟩;exact .inl z;exact .inr ⟨le_of_eq z.symm,by rw[z,hsz];exact ϥ (Ϫ _)⟩;have hp:(!t.plain&&decide (es.size>1))=Θ:=by simpa using hp
 rw[if_neg (by rw[hp];simp)];refine Ξ (Λ ?_);refine mk s.heap s.drawn (rawInt 0) (λb o e=>e) (le_refl _) λh' hsz hk hit=>⟨[s.heap.objs.size,a],_,_,List.Perm.refl _,⟨λA hA=>zoO hA (ne_of_lt al) hb hd hf ht hp,⟨zero_le _,hit,hk _ _ ho⟩,hk,le_refl _,by rw[hsz];exact Ϫ _,λb hb=>?_⟩⟩;simp![mem_cons,not_mem_nil,or_false]at hb;rcases hb with z|z;exact .inr ⟨le_of_eq z.symm,by rw[z,hsz];exact Ϫ _⟩;exact .inl z
def zk0(ty:s.TypeIs (.ref a) "set")(h:Q Θ s):wpAny (model prog w) A (Builtin.List.listLengthHint (.ref a)) Q E s:=by
 unfold Builtin.List.listLengthHint;refine Ξ (Ϩ ty F.slot_set_len.lookup ?_);generalize hid:("set.__len__":String)=id0
 wp_delta
 rw[show splitId id0=Φ ("set","__len__") from by subst hid;decide +kernel];subst hid;refine Ξ (ϭ (T:="set") (b:=Δ) ty (by rw[isSubtype_type];kernel_rfl) ?_);refine wpAny_ite_split (λhab=>absurd hab (by decide)) (λ_=>?_);refine wpAny_ite_split (λ_=>?_) (λhab=>absurd (by decide +kernel) hab);refine Ξ (wpAny_typeOf ty ?_);exact Λ h
def zhX(hh:A.handled=Ψ)(ho:s.heap.get? a=Φ o)(hex:o.ExactSet)(hd:o.data=.set es ep t)(hf:t.fits es.size=Δ)(ht:TOk (!byT w) t)(hz:es.size<scanBound)(S)(hSa:S≠a)(res)(c₀)(hS:s.heap.get? S=Φ {cls:=.type "list",data:=.seq #[] c₀})(hR:∀h' d' tk acc c,(∀b o,b≠S->s.heap.get? b=Φ o->h'.get? b=Φ o)->h'.get? S=Φ {cls:=.type "list",dict:=Ψ,data:=.seq acc c,slots:=#[]}->acc.toList.Perm (es.toList.map (·.2))->R (.ok (.ret res)) {s with heap:=h',drawn:=d',toks:=tk}):
  wpAny (model prog w) A.in1 (Builtin.List.listExtendWith (.ref S) (.ref a) res)
   (λfin s'=>match fin with|.done f=>R (.ok f) s'|.again c'=>c'.quiet=Δ/\codeAny (model prog w) A c' R s') (λe s'=>R (.error e) s') s:=by
 have hlt:=Ν hS;unfold Builtin.List.listExtendWith;refine Ξ (wpAny_typeOf (T:="set") ⟨_,ho,hex.1⟩ ?_);rw[if_neg (by simp[Builtin.List.listSameRef,hSa])];refine Ξ (zkY ho hex hd hf ht hz λh1 d' I fp St vals hp G=>?_);have hS1:=G.old _ _ hS;refine Ξ (ϙ (zk0 (s:={s with heap:=h1,drawn:=d'}) ⟨_,G.old _ _ ho,hex.1⟩ ?_));rw[if_pos (by decide +kernel)];refine Ξ (Ϭ (Ξ ?_));show wpAny _ _ (updateSeq S (·.push .none)>>=λ_=>updateSeq S (·.pop)) _ _ _;refine Ξ (wpAny_updateSeq (s:={s with heap:=h1,drawn:=d'}) hS1 rfl ?_);have hS₂:=Heap.get?_update_self (Obj.mapSeq (·.push Ω.none)) hS1 rfl;refine wpAny_updateSeq (hz:=by seq_fits) hS₂ rfl ?_;have hS₃:=Heap.get?_update_self (Obj.mapSeq (·.pop)) hS₂ rfl;have k3:∀b o,b≠S->h1.get? b=Φ o->((h1.update S (Obj.mapSeq (·.push Ω.none))).update S (Obj.mapSeq (·.pop))).get? b=Φ o:=λb o hb e=>(Heap.get?_update_other _ _ (Ne.symm hb)).trans ((Heap.get?_update_other _ _ (Ne.symm hb)).trans e);have Sfp:S∉fp:=λhm=>by rcases G.fp S hm with z|z;exact hSa z;exact Nat.not_lt.mpr z.1 hlt
 have hv:vals.length<=sizeLine:=by rw[hp.length_eq,length_map,length_toList];exact fits_of_scanBound hz
 refine Λ ⟨plainId_quiet PySem.F.plain_extend_loop _,codeAny_extend_loopS (G.wk A.in1 hh).toS hv S Sfp res vals.length 0 _ #[] _ rfl (zero_le _) ?_ hS₃ (ItemsOf.nil _) λs' acc c mv hs' hacc=>?_⟩;exact(G.wk A.in1 hh).frame 0 _ _ G.st λb hb o e=>k3 b o (λz=>Sfp (z▸hb)) e;rw[Moved.eq_with mv];refine hR s'.heap d' s'.toks acc c (λb o hb e=>mv.heap b o (λhm=>?_) (k3 b o hb (G.old _ _ e))) hs' ?_;simp![mem_cons,not_mem_nil,or_false]at hm;rcases hm with z|z;exact hb z;exact Nat.not_lt.mpr (z▸G.new) (Ν e);have:acc.toList=vals:=by refine ext_getElem? λi=>?_;by_cases hi:i<acc.size;have e1:acc[i]?=Φ acc[i]:=ϐ hi;have e2:=hacc.2 i _ e1;rw[ϋ,e1];exact e2.symm;rw[ϝ (by rw[length_toList];lia),ϝ (by have:=hacc.1;lia)]
 rw[this];exact hp
def zdo(hh:A.handled=Ψ)(ho:s.heap.get? a=Φ o)(hex:o.ExactSet)(hd:o.data=.set es ep t)(hf:t.fits es.size=Δ)(ht:TOk (!byT w) t)(hz:es.size<scanBound)(h:∀(h':Heap)(d':Drawn)(tk:Nat)(vals:List Ω),(∀b o,s.heap.get? b=Φ o->h'.get? b=Φ o)->s.heap.objs.size<h'.objs.size->vals.Perm (es.toList.map (·.2))->R vals {s with heap:=h',drawn:=d',toks:=tk}):
  wpAny (model prog w) A (collect (.ref a)) R E s:=by
 have hr:a<s.heap.objs.size:=Ν ho;unfold collect;refine Ξ (wpAny_runValue (Ϟ PySem.F.entry_proto_collect ?_));rw[Ϛ PySem.F.plain_proto_collect _];show wpAny _ A.in1 (newList []>>=λl=>again (.builtin "list.__iadd__" ⟨[l,.ref a],[]⟩)) _ _ s;refine Ξ (ό ?_);refine Λ ⟨plainId_quiet PySem.F.plain_list_iadd _,Ϟ PySem.F.entry_list_iadd ?_⟩;rw[Ϛ PySem.F.plain_list_iadd _];have hS₁:(s.heap.push {cls:=.type "list",data:=.seq ([]:List Ω).toArray}).get? s.heap.objs.size=Φ {cls:=.type "list",data:=.seq #[]}:=Μ _ rfl;show wpAny _ A.in1 (Builtin.List.listExtendWith (.ref s.heap.objs.size) (.ref a) (.ref s.heap.objs.size)) _ _ _;have key:=zhX (prog:=prog) (w:=w) (A:=A) (s:={s with heap:=s.heap.push {cls:=.type "list",data:=.seq ([]:List Ω).toArray}})
  (R:=λ(q:Result) (s':Ι)=>∃(h':Heap) (d':Drawn) (tk:Nat) (acc':Array Ω) (c':Nat),q=.ok (.ret (.ref s.heap.objs.size))/\s'={s with heap:=h',drawn:=d',toks:=tk}/\
   (∀b o,s.heap.get? b=Φ o->h'.get? b=Φ o)/\h'.get? s.heap.objs.size=Φ {cls:=.type "list",dict:=Ψ,data:=.seq acc' c',slots:=#[]}/\acc'.toList.Perm (es.toList.map (·.2)))
  hh (Α _ ho) hex hd hf ht hz s.heap.objs.size (ne_of_gt hr) (.ref s.heap.objs.size) 0 hS₁
  (λh' d' tk acc' c' hk hS' hacc=>⟨h',d',tk,acc',c',rfl,rfl,λb o e=>hk b o (ne_of_lt (Ν e)) (Α _ e),hS',hacc⟩)
 refine Ϥ key (λfin s' x=>?_) λe s' x=>?_;cases fin with| done f=>let⟨h',d',tk,acc',c',e,rfl,hk,hS',hacc⟩:=x;cases e;show wpAny _ A (load s.heap.objs.size>>=_) _ _ _;exact Ξ (wpAny_load hS' (Λ (h h' d' tk _ hk (Ν hS') hacc)))| again c₁=>refine⟨x.1,ϩ x.2 λq s₂ y=>?_⟩;let⟨h',d',tk,acc',c',rfl,rfl,hk,hS',hacc⟩:=y;show wpAny _ A (load s.heap.objs.size>>=_) _ _ _;exact Ξ (wpAny_load hS' (Λ (h h' d' tk _ hk (Ν hS') hacc)))
 let⟨_,_,_,_,_,e',_⟩:=x;cases e'
end
end R
namespace R
open PySem PySem.Spec PyProof.Rows L2
def ze7(x):∀l:List Int,(insZ x l).Perm (x::l)
 | []=>List.Perm.refl _| y::l=>by unfold insZ;split;exact List.Perm.refl _;exact((ze7 x l).cons y).trans (List.Perm.swap ..)
def zeo(x):∀{l:List Int},l.Pairwise (·<=·)->(insZ x l).Pairwise (·<=·)
 | [],_=>by simp[insZ]| y::l,h=>by have a:=pairwise_cons.mp h;unfold insZ;split;rename_i c;exact pairwise_cons.mpr ⟨λz b=>by rcases mem_cons.mp b with e|e;rw[e];exact c;exact Int.le_trans c (a.1 z e),h⟩;rename_i c;refine pairwise_cons.mpr ⟨λz b=>?_,zeo x a.2⟩;rcases mem_cons.mp ((ze7 x l).mem_iff.mp b) with e|e;rw[e];lia;exact a.1 z e
def zbX:∀l:List Int,(zeJ l).Perm l
 | []=>List.Perm.refl _|x::l=>(ze7 x _).trans ((zbX l).cons x)
def zcY:∀l:List Int,(zeJ l).Pairwise (·<=·)
 | []=>Pairwise.nil|x::l=>zeo x (zcY l)
def zef:∀{a b:List Int},a.Perm b->a.Pairwise (·<=·)->b.Pairwise (·<=·)->a=b
 | [],b,p,_,_=>(List.nil_perm.mp p).symm|x::a,[],p,_,_=>absurd (List.perm_nil.mp p) (by simp)| x::a,y::b,p,ha,hb=>by
  have ha':=pairwise_cons.mp ha;have hb':=pairwise_cons.mp hb;have e1:y<=x:=by rcases mem_cons.mp (p.mem_iff.mp Υ) with e|e;exact Int.le_of_eq e.symm;exact hb'.1 x e
  have e2:x<=y:=by rcases mem_cons.mp (p.mem_iff.mpr Υ) with e|e;exact Int.le_of_eq e.symm;exact ha'.1 y e
  cases Int.le_antisymm e1 e2;rw[zef (List.Perm.cons_inv p) ha'.2 hb'.2]
def zgT(ns):(R.dedup ns).Nodup:=by
 unfold R.dedup;suffices ∀(l acc:List Int),acc.Nodup->(l.foldl (λacc x=>if acc.contains x then acc else acc++[x]) acc).Nodup from this ns [] List.nodup_nil
 intro l;induction l with|nil=>intro acc h;exact h| cons x l ih=>intro acc h;refine ih _ ?_;show(if acc.contains x=Δ then acc else acc++[x]).Nodup;split;exact h;rename_i c;refine nodup_append.mpr ⟨h,by simp,λa ha b hb e=>?_⟩;simp![mem_singleton]at hb;subst hb;subst e;exact c (by simpa using ha)
def zce:∀{a:List Int}{b:List Int},a.Nodup->(∀x∈a,x∈b)->b.length=a.length->a.Perm b
 | [],b,_,_,h=>by rw[List.length_eq_zero_iff.mp h]| x::a,b,hn,hs,h=>by have hn':=nodup_cons.mp hn;have hx:=hs x Υ;have pb:=List.perm_cons_erase hx;refine List.Perm.trans ((zce (b:=b.erase x) hn'.2 (λy hy=>?_) ?_).cons x) pb.symm;exact(List.mem_erase_of_ne (λe:y=x=>hn'.1 (e▸hy))).mpr (hs y (Ρ _ hy));rw[List.length_erase_of_mem hx,h];simp
abbrev SetO(prog:Χ)(w:ϒ)(o:Obj)(ns:List Int):Prop:=∃es ep t ms,o.ExactSet/\o.data=.set es ep t/\t.fits es.size=Δ/\TOk (!byT w) t/\es.size<scanBound/\IntsAre (es.toList.map (·.2)) ms/\ms.Perm ns
def zkf:∀{l:List (Int×Ω)},ElemsOf (intKind prog w) l->∃ms,IntsAre (l.map (·.2)) ms
 | [],_=>⟨[],.nil⟩| e::l,h=>by let⟨ms,hm⟩:=zkf (l:=l) λx hx=>h x (Ρ _ hx);let⟨⟨k,hk,_⟩,_⟩:=h e Υ;let⟨t,ht⟩:=Ω.isInt_shape hk;exact⟨k::ms,by rw[ϊ,ht];exact .cons _ _ hm⟩
def zke:∀{us vs:List Ω}{ns:List Int},us.Perm vs->IntsAre vs ns->∃ms,IntsAre us ms/\ms.Perm ns:=by
 intro us vs ns p;induction p generalizing ns with
 |nil=>intro h;exact⟨ns,h,List.Perm.refl _⟩| cons x p ih=>intro h;cases h with| cons _ _ h=>let⟨ms,h1,h2⟩:=ih h;exact⟨_::ms,.cons _ _ h1,h2.cons _⟩
 |swap x y l=>intro h;cases h with| cons _ _ h=>cases h with|cons _ _ h=>exact⟨_,.cons _ _ (.cons _ _ h),List.Perm.swap ..⟩
 |trans p q ih1 ih2=>intro h;let⟨ms,h1,h2⟩:=ih2 h;let⟨ks,h3,h4⟩:=ih1 h1;exact⟨ks,h3,h4.trans h2⟩
def zhr:∀{l:List (Int×Ω)}{ms:List Int},IntsAre (l.map (·.2)) ms->∀k,(∃e∈l,(intKind prog w).is k e.2=Δ)->k∈ms
 | [],_,h,k,⟨e,he,_⟩=>by simp at he| e::l,_,h,k,⟨e',he,hk⟩=>by rw[ϊ]at h;generalize hv:e.2=v at h;cases h with| cons _ _ h=>rcases mem_cons.mp he with z|z;let⟨t,ht⟩:=Ω.isInt_shape hk;rw[z,hv]at ht;cases ht;exact Υ;exact Ρ _ (zhr h k ⟨e',z,hk⟩)
def SetO.of(x:SetD prog w h a S ns.length)(hn:ns.Nodup)(hS:∀k∈ns,S k=Δ):∃o,h.get? a=Φ o/\SetO prog w o ns:=by let⟨o,es,ep,t,h1,h2,h3,h4,h5,h6,h7,h8,h9⟩:=x;let⟨ms,hm⟩:=zkf h4;refine⟨o,h1,es,ep,t,ms,h2,h3,h7,h9,h6,hm,(zce hn (λk hk=>zhr hm k ((h5 k).mp (hS k hk))) ?_).symm⟩;rw[<-hm.length,length_map,length_toList,h8]
section
variable[Mks]{X:Cx}
def zkd(I:Inv X pins σ H s)(k:∀b u,s.heap.get? b=Φ u->h'.get? b=Φ u)(hp:s.heap.objs.size<=a)(new:ObjOk X.prog X.w (upd H a o) h' a o):
 Inv X pins σ (upd H a o) {s with heap:=h',drawn:=d',toks:=t'}:=I.call' rfl (Un.laid k hp (I.hok.fresh hp)) (I.hok.laid k hp new) I.bare λb (hb:b∈([]:List Addr))=>by cases hb
def zne(hc:X.calm=Δ):za0 X (.type "set") (λxs H Q=>∃(a:Addr) (ns:List Int),xs=[.ref a]/\SqL X.K H a (ns.map V.int)/\ns.length<4000/\∀p,H p=Ψ->∀o,SetO X.prog X.w o (R.dedup ns)->Q (.ref p) (upd H p (.frz o (.own 0)))):=by
 intro pins s σ H xs us Q I r h;let⟨a,ns,rfl,hq,hz,q⟩:=h;let⟨u,rfl,ru⟩:=r.one;cases(show u=Ω.ref a from ru);have fresh:=I.hok.fresh (le_refl s.heap.objs.size);have hA:X.A.handled=Ψ:=I.ok.hd hc;let⟨its,rv,pl,hz2⟩:=I.list hq;have hl:its.toArray.size=ns.length:=by rw[size_toArray,<-rv.length,length_map]
 refine zi5 hA pl.isList (zbm rv) (by rw[hl];unfold scanBound;lia) λg tk hS kp=>?_;rw[hl,<-zcG]at hS;let⟨o,ho,so⟩:=SetO.of hS (zgT ns) (λk hk=>List.any_eq_true.mpr ⟨k,hk,by simp⟩);exact⟨.ref s.heap.objs.size,_,I.laid (o:=.frz o (.own 0)) (λb o e=>kp b o (Ν e) e) (le_refl _) ⟨ho,_,ho⟩,rfl,q _ fresh o so⟩
def zhU(hc:X.calm=Δ):za0 X (.builtin "sorted") (λxs H Q=>∃(a:Addr) (o:Obj) (ns:List Int),xs=[.ref a]/\H a=Φ (.frz o (.own 0))/\SetO X.prog X.w o ns/\ns.length<64/\∀p,H p=Ψ->Q (.ref p) (upd H p (.lst ((zeJ ns).map V.int)))):=by
 intro pins s σ H xs us Q I r h;let⟨a,o,ns,rfl,hf,⟨es,ep,t,ms,x1,x2,x3,x4,x5,x6,x7⟩,h64,q⟩:=h;let⟨u,rfl,ru⟩:=r.one;cases(show u=Ω.ref a from ru);have ho:s.heap.get? a=Φ o:=(show ObjOk X.prog X.w H s.heap a (.frz o (.own 0)) from I.hok a _ hf).1;have hA:X.A.handled=Ψ:=I.ok.hd hc;refine Calls.call_function_entry kind_sorted plain_sorted entry_sorted (args_sorted1 _) ?_;unfold Builtin.«sorted»;refine Ξ (m:=checkCount "sorted" 1 1 _) (Λ ?_);refine Ξ (zdo hA ho x1 x2 x3 x4 x5 λh1 d' tk vals kp hlt hp=>?_);let⟨ks,hks,pk⟩:=zke hp x6;have h64':vals.length<64:=by rw[hks.length,(pk.trans x7).length_eq];exact h64
 refine Ξ (wpAny_newList ?_ (by rw[ϑ];lia));have hoL:(h1.push (seqObj "list" vals.toArray 0)).get? h1.objs.size=Φ (seqObj "list" vals.toArray 0):=Μ _ rfl;refine Ξ (ϙ (ύ slot_list_sort ⟨_,hoL,rfl⟩ entry_list_sort (list_sort_tree hoL hks h64' λout ns' a1 a2 a3=>⟨_,rfl,?_⟩) (args_list_sort _)));have hle:s.heap.objs.size<=h1.objs.size:=le_of_lt hlt;have en:ns'=zeJ ns:=zef (a2.trans (pk.trans (x7.trans (zbX ns).symm))) a3 (zcY ns);subst en;let⟨c,hc'⟩:=sortedHeap_at (out:=out) hoL;refine Λ ⟨_,rfl,.ref h1.objs.size,_,zkd (s:=s) (d':=d') (t':=tk) (o:=.lst ((zeJ ns).map V.int)) I (λb u e=>?_) hle ⟨?_,out.toList,c,zdi a1,?_⟩,rfl,q _ (I.hok.fresh hle)⟩;have e1:=kp b u e;have l1:=Ν e1;rw[sortedHeap_old (ne_of_lt l1) (Nat.lt_of_lt_of_eq (ϥ l1) (ϓ ..).symm)];exact Α _ e1;rw[length_map,(zbX ns).length_eq,ϑ];lia;exact hc'
variable{T:Tab}{cf:CF}{k:Nat}{N:List Str}{sc:Scope}{pos p p2 pos':Pos}
def zgl:bootBuiltins "sorted"=Φ (.builtin "sorted"):=by rfl
def zng(G:Gd T cf k N sc X)(hg:Gl X "sorted"/\X.mg "sorted"=Ψ)(hr:Gl X "set"/\X.mg "set"=Ψ)(he:PE X e (tE X.K cf ca))(hst:zak e=Δ):
  PE X (.Call (.Name "sorted" p) [.Call (.Name "set" p2) [e] [] pos'] [] pos) (tE X.K cf (.sset ca)):=by
 have hin:=zaO (p:=p2) (pos:=pos') (zne G.calm) hr.1 hr.2 zkI (zaD he hst) (by decide) (by decide) (zao hst [] X.env);refine PE.imp (zb1 (zhU G.calm) hg.1 hg.2 zgl (zaD hin rfl) (by decide) (by decide) rfl) λσ H Qv z=>?_;let⟨δ,ι,S,Q,hs,hh,w,q⟩:=z;change W (Out.bind _ _) _ at w;simp![zab] at w;refine tE.run hs hh w λd v ι1 H1 S1 x1 hs1 hh1 r1 w1=>?_;let⟨ns,hb,w2⟩:=zaA w1;unfold lstI at hb;split at w2;rename_i c;cases d with
 |ref l=>
  let⟨a,h1,rfl⟩:=r1;dsimp only at hb;cases e1:S1.get l with
  |none=>rw[e1]at hb;exact nS hb
  |some ob=>rw[e1]at hb;cases ob with| lst ds=>have hb:zaI ds=Φ ns:=hb;let⟨a',g1,zs,ha,rz⟩:=hh1.obj _ _ e1;rw[h1]at g1;cases g1;rw[zcD hb]at rz;have:=rz.ints_eq;subst this;have hd:=zf7 ns;let⟨c2,w3⟩:=zcg w2;refine⟨a,ns,rfl,SqL.of ha,by lia,λpr hpr o so=>⟨pr,o,_,rfl,zap,so,by lia,λl hl=>?_⟩⟩;have e1:Ext ι1 H1 ι1 (upd H1 pr (.frz o (.own 0))):=Ext.new hpr _;exact q _ _ (Lf.up (x1.trans e1) (Lf.lst (hh1.new hpr _) hl (RVs.ints _) w3))|_=>exact nS hb
 |_=>exact nS hb
 exact w2.elim
end
section
variable[Mks]{X:Cx}
variable{T:Tab}{cf:CF}{k:Nat}{N:List Str}{sc:Scope}{pos p:Pos}
def zq9:bootBuiltins "min"=Φ (.builtin "min"):=by rfl
end
section
variable{prog:Χ}{w:ϒ}{A:ϔ}{E:Ω->Ι->Prop}{s:Ι}{a:Addr}{kvs:List (Key×Ω)}{ep:Nat}
def ze9{P:List Ω->Prop}(hr:a<s.heap.objs.size)(key:∀(R:Result->Ι->Prop)(s1:Ι),s1={s with heap:=s.heap.push {cls:=.type "list",data:=.seq #[]}}->
   (∀h' tk acc c,(∀b o,b≠s.heap.objs.size->s1.heap.get? b=Φ o->h'.get? b=Φ o)->h'.get? s.heap.objs.size=Φ {cls:=.type "list",dict:=Ψ,data:=.seq acc c,slots:=#[]}->P acc.toList->R (.ok (.ret (.ref s.heap.objs.size))) {s1 with heap:=h',toks:=tk})->
   wpAny (model prog w) A.in1 (Builtin.List.listExtendWith (.ref s.heap.objs.size) (.ref a) (.ref s.heap.objs.size))
    (λfin s'=>match fin with|.done f=>R (.ok f) s'|.again c'=>c'.quiet=Δ/\codeAny (model prog w) A c' R s') (λe s'=>R (.error e) s') s1)(h:∀(h':Heap)(tk:Nat)(vals:List Ω),(∀b o,s.heap.get? b=Φ o->h'.get? b=Φ o)->s.heap.objs.size<h'.objs.size->P vals->Rr vals {s with heap:=h',toks:=tk}):
  wpAny (model prog w) A (collect (.ref a)) Rr E s:=by
 unfold collect;refine Ξ (wpAny_runValue (Ϟ PySem.F.entry_proto_collect ?_));rw[Ϛ PySem.F.plain_proto_collect _];show wpAny _ A.in1 (newList []>>=λl=>again (.builtin "list.__iadd__" ⟨[l,.ref a],[]⟩)) _ _ s;refine Ξ (ό ?_);refine Λ ⟨plainId_quiet PySem.F.plain_list_iadd _,Ϟ PySem.F.entry_list_iadd ?_⟩;rw[Ϛ PySem.F.plain_list_iadd _];show wpAny _ A.in1 (Builtin.List.listExtendWith (.ref s.heap.objs.size) (.ref a) (.ref s.heap.objs.size)) _ _ _;have key:=key (λ(q:Result) (s':Ι)=>∃(h':Heap) (tk:Nat) (acc':Array Ω) (c':Nat),q=.ok (.ret (.ref s.heap.objs.size))/\s'={s with heap:=h',toks:=tk}/\
   (∀b o,s.heap.get? b=Φ o->h'.get? b=Φ o)/\h'.get? s.heap.objs.size=Φ {cls:=.type "list",dict:=Ψ,data:=.seq acc' c',slots:=#[]}/\P acc'.toList) _ rfl
  (λh' tk acc' c' hk hS' hacc=>⟨h',tk,acc',c',rfl,rfl,λb o e=>hk b o (ne_of_lt (Ν e)) (Α _ e),hS',hacc⟩)
 refine Ϥ key (λfin s' x=>?_) λe s' x=>?_;cases fin with| done f=>let⟨h',tk,acc',c',e,rfl,hk,hS',hacc⟩:=x;cases e;show wpAny _ A (load s.heap.objs.size>>=_) _ _ _;exact Ξ (wpAny_load hS' (Λ (h h' tk _ hk (Ν hS') hacc)))| again c₁=>refine⟨x.1,ϩ x.2 λq s₂ y=>?_⟩;let⟨h',tk,acc',c',rfl,rfl,hk,hS',hacc⟩:=y;show wpAny _ A (load s.heap.objs.size>>=_) _ _ _;exact Ξ (wpAny_load hS' (Λ (h h' tk _ hk (Ν hS') hacc)))
 let⟨_,_,_,_,e',_⟩:=x;cases e'
end
def zla(it:us.length=n/\∀(j:Nat)(v:Ω),us[j]?=Φ v->∃t,v=Ω.int (0+(j:Int)*1) t):Vals ((List.range n).map λ(j:Nat)=>V.int j) us:=by
 let⟨hl,hv⟩:=it;induction n generalizing us with
 |zero=>cases us with
  |nil=>exact .nil|cons _ _=>simp at hl
 |succ n ih=>
  have hne:us≠[]:=by intro z;subst z;simp at hl
  have hd:us=us.dropLast++[us.getLast hne]:=(List.dropLast_concat_getLast hne).symm;rw[List.range_succ,map_append,hd];have hdl:us.dropLast.length=n:=by simp[hl]
  refine Vals.append (ih hdl λj v e=>hv j v ?_) (.cons ?_ .nil);have hj:j<us.dropLast.length:=(Ζ.mp e).1;rw[hd,getElem?_append_left hj];exact e;let⟨t,e⟩:=hv n (us.getLast hne) (by
   conv=>lhs;rw[hd]
   rw[getElem?_append_right (by lia)];simp[hdl])
  exact⟨t,by simpa using e⟩
section
variable{prog:Χ}{w:ϒ}{A:ϔ}{E:Ω->Ι->Prop}{s:Ι}
def zec{n:Nat}(hh:A.handled=Ψ)(hr:IsRange s.heap r a b c t u v)(hsmall:Builtin.Range.small a b c=Δ)(hn:Builtin.Range.rangeSize a b c=n)(hlen:n<=16777216)(h:∀(h':Heap)(tk:Nat)(vals:List Ω),(∀b o,s.heap.get? b=Φ o->h'.get? b=Φ o)->(vals.length=n/\∀(i:Nat)(x:Ω),vals[i]?=Φ x->∃t,x=.int (a+i*c) t)->Q₁ (.ref h'.objs.size) {s with heap:=h'.push {cls:=.type "tuple",data:=.seq vals.toArray},toks:=tk}):
  codeAny (model prog w) A (.call (.builtin "tuple.__new__") ⟨[.type "tuple",.ref r],[]⟩) (wants Q₁ E) s:=by
 refine codeAny_of_tree ?_;show wpAny _ A.in1 (do checkBuiltinCall "tuple.__new__" ⟨[.type "tuple",.ref r],[]⟩;again (.builtin "tuple.__new__" ⟨[.type "tuple",.ref r],[]⟩)) _ _ s;refine Ξ (wpAny_of_eq (F.newCall_tuple_1 _) (Λ ⟨plainId_quiet F.plain_tuple_new _,Ϟ F.entry_tuple_new ?_⟩));rw[Ϛ F.plain_tuple_new _];have hsub:=sub_tuple_self;have hinit:=init_tuple_lookup;have hmh:=madeHere_tuple;have hTI:s.TypeIs (.ref r) "range":=⟨_,hr,rfl⟩;have col:∀{A':ϔ}{Rr:List Ω->Ι->Prop}{E':Ω->Ι->Prop},A'.handled=Ψ->(∀(h':Heap)(tk:Nat)(vals:List Ω),(∀b o,s.heap.get? b=Φ o->h'.get? b=Φ o)->s.heap.objs.size<h'.objs.size->(vals.length=n/\∀(i:Nat)(x:Ω),vals[i]?=Φ x->∃t,x=.int (a+i*c) t)->Rr vals {s with heap:=h',toks:=tk})->wpAny (model prog w) A' (collect (.ref r)) Rr E' s:=by intro A' Rr E' hA' hR;refine ze9 (Ν hr) (λR s1 e1 hR'=>?_) hR;subst e1;exact wpAny_extend_range hA' (Α _ hr) hsmall hn hlen _ _ 0 (Μ _ rfl) λh' tk acc c' hk hS' hacc=>hR' h' tk acc c' hk hS' ⟨by rw[length_toList];exact hacc.1,λi x e=>hacc.2 i x (by simpa using e)⟩
 wp_walk using wpAny_typeOf hTI,col (A':=A.in1) hh
 intro h' tk vals kp hlt hv;show wpAny _ _ (Builtin.Tuple.tupleExact vals.toArray>>=λv=>ret v) _ _ _;unfold Builtin.Tuple.tupleExact;refine Ξ (ό ?_ (by show vals.toArray.size<=sizeLine;rw[size_toArray,hv.1,ϑ];exact hlen));refine Λ ?_;exact h h' tk vals kp hv
end
section
variable[Mks]{X:Cx}
variable{T:Tab}{cf:CF}{k:Nat}{N:List Str}{sc:Scope}{pos p p2 pos':Pos}
def ziT(hc:X.calm=Δ):za0 X (.type "tuple") (λxs H Q=>∃p hi,xs=[.ref p]/\H p=Φ (.rng 0 hi)/\-(2^62)<=hi/\hi<2^62/\hi.toNat<=16777216/\∀l,H l=Ψ->Q (.ref l) (upd H l (.tup ((List.range hi.toNat).map λ(j:Nat)=>.int j)))):=by
 intro pins s σ H xs us Q I r h;let⟨p,hi,rfl,hp,h1,h2,h3,q⟩:=h;let⟨u,rfl,ru⟩:=r.one;cases(show u=Ω.ref p from ru);let⟨t,t2,t3,e⟩:=(show ObjOk X.prog X.w H s.heap p (.rng 0 hi) from I.hok p _ hp);have hA:X.A.handled=Ψ:=I.ok.hd hc;have hn:Builtin.Range.rangeSize 0 hi 1=(hi.toNat:Nat):=by rw[rangeSize_one];split<;>lia
 refine callType_codes (Q₁:=λobj s₁=>s₁.TypeIs obj "tuple"/\∃v H',Inv X pins σ H' s₁/\RelV v obj/\Q v H') F.called_tuple (F.typeCall_tuple_1 _) F.entry_object_init ?_ λobj s₁ h₁=>?_;refine zec hA e (small_one (by decide) (by decide) h1 h2) hn h3 λh' tk acc kp it=>⟨⟨_,Μ _ rfl,rfl⟩,?_⟩;have I1:Inv X pins σ H {s with heap:=h',toks:=tk}:=I.kept kp;refine⟨.ref h'.objs.size,_,I1.laid (o:=.tup ((List.range hi.toNat).map λ(j:Nat)=>.int j)) (t':=tk) (λb o e=>Α _ e) (le_refl _) ⟨?_,acc,zla it,IsTup.new _ _⟩,rfl,q _ (I1.hok.fresh (le_refl _))⟩;rw[length_map,length_range,ϑ];exact h3;exact⟨h₁.1,F.args_object_init_2 obj _,object_init_meets F.called_tuple.init.lookup F.called_tuple.made (by decide) X.prog X.w X.A.in1 _ s₁ ⟨h₁.1,rfl,h₁.2⟩⟩
def zk4(G:Gd T cf k N sc X)(hg:Gl X "tuple"/\X.mg "tuple"=Ψ)(hr:Gl X "range"/\X.mg "range"=Ψ)(ha:PE X a (tE X.K cf ca))(hst:zak a=Δ):
  PE X (.Call (.Name "tuple" p) [.Call (.Name "range" p2) [a] [] pos'] [] pos) (tE X.K cf (.mkT (.rng1 ca))):=by
 have hin:=zaO (p:=p2) (pos:=pos') zfz hr.1 hr.2 zhN (zaD ha hst) (by decide) (by decide) (zao hst [] X.env);refine PE.imp (zaO (ziT G.calm) hg.1 hg.2 zff (zaD hin rfl) (by decide) (by decide) rfl) λσ H Qv z=>?_;let⟨δ,ι,S,Q,hs,hh,w,q⟩:=z;change W (Out.bind (Out.bind _ _) _) _ at w;simp![zab]at w;refine tE.run hs hh w λd v ι1 H1 S1 x1 hs1 hh1 r1 w1=>?_;cases d with| int j=>obtain rfl:v=.int j:=r1;dsimp only at w1;split at w1;rename_i c;rw[W_ok]at w1;split at w1;rename_i c2;refine⟨j,rfl,λpr hpr=>⟨pr,j,rfl,zap,c.1,c.2,by simpa using c2,λl hl=>?_⟩⟩;have hh2:=hh1.new hpr (.rng 0 j);refine q _ _ (Lf.up (x1.trans (Ext.new hpr _)) (Lf.tup hh2 hl ?_ w1));have:=RVs.ints (K:=X.K) (ι:=ι1) (H:=upd H1 pr (.rng 0 j)) ((List.range j.toNat).map λ(m:Nat)=>(m:Int));rw[map_map,map_map]at this;exact this;exact w1.elim;exact w1.elim|_=>exact w1.elim
end
end R
namespace R
namespace Sr
open PySem PyProof.Rows
abbrev za2:Bool->Keyed->Array Keyed->Nat->Nat->Nat->StateT SortSt Sem (Option Nat):=sortPriv% PySem.Builtin.gallop
abbrev zdc:Array Keyed->Array Keyed->StateT SortSt Sem (Array Keyed):=sortPriv% PySem.Builtin.mergeLo
abbrev zdd:Array Keyed->Array Keyed->StateT SortSt Sem (Array Keyed):=sortPriv% PySem.Builtin.mergeHi
noncomputable abbrev setG(st:SortSt)(g:Nat):SortSt:=SortSt.mk' (kindOf st) (arrOf st) (pendingOf st) g (failedOf st)
abbrev zeD(left:Bool)(key:Keyed)(arr:Array Keyed)(base i:Nat):StateT SortSt Sem (Option Bool):=do
 let x <-elem' arr (base+i)
 if left then lt' x key else return (<-lt' key x).map (!·)
def ziw(left:Bool)(key:Keyed)(arr:Array Keyed)(base n hint:Nat):za2 left key arr base n hint=(do
 let mut lastofs:=0;let mut ofs:=1;let mut lo:=0;let mut hi:=0
 let Φ right <-zeD left key arr base hint|return Ψ
 if right then
  let maxofs:=n-hint
  for _ in [0:n] do
   if ofs≥maxofs then break
   let Φ more <-zeD left key arr base (hint+ofs)|return Ψ
   if !more then break
   lastofs:=ofs
   ofs:=2*ofs+1
  lo:=hint+lastofs+1
  hi:=hint+min ofs maxofs
 else
  let maxofs:=hint+1
  for _ in [0:n] do
   if ofs≥maxofs then break
   let Φ found <-zeD left key arr base (hint-ofs)|return Ψ
   if found then break
   lastofs:=ofs
   ofs:=2*ofs+1
  lo:=hint+1-min ofs maxofs
  hi:=hint-lastofs
 for _ in [0:n] do
  if lo≥hi then break
  let m:=lo+(hi-lo)/2
  let Φ more <-zeD left key arr base m|return Ψ
  if more then lo:=m+1 else hi:=m
 return Φ hi):=rfl
def zgO(a b:Array Keyed):zdc a b=(do
 rule "list.sort.merge-lo"
 let mut out:Array Keyed:=#[<-elem' b 0];let mut ia:=0;let mut ib:=1
 if ib==b.size then return out++a.extract ia a.size++b.extract ib b.size
 if ia+1==a.size then return out++b.extract ib b.size++a.extract ia a.size
 let mut minGallop:=gallopOf (<-get)
 for _ in [0:a.size+b.size] do
  let mut acount:=0;let mut bcount:=0
  for _ in [0:a.size+b.size] do
   let Φ bWins <-lt' (<-elem' b ib) (<-elem' a ia)|return out++a.extract ia a.size++b.extract ib b.size
   if bWins then
    out:=out.push (<-elem' b ib);ib:=ib+1;bcount:=bcount+1;acount:=0
    if ib==b.size then return out++a.extract ia a.size++b.extract ib b.size
    if bcount≥minGallop then break
   else
    out:=out.push (<-elem' a ia);ia:=ia+1;acount:=acount+1;bcount:=0
    if ia+1==a.size then return out++b.extract ib b.size++a.extract ia a.size
    if acount≥minGallop then break
  rule "list.sort.gallop"
  minGallop:=minGallop+1
  for _ in [0:a.size+b.size] do
   if minGallop>1 then minGallop:=minGallop-1
   modify (setG · minGallop)
   let Φ k <-za2 Θ (<-elem' b ib) a ia (a.size-ia) 0|return out++a.extract ia a.size++b.extract ib b.size
   acount:=k
   if k>0 then
    out:=out++a.extract ia (ia+k);ia:=ia+k
    if ia+1==a.size then return out++b.extract ib b.size++a.extract ia a.size
    if ia==a.size then return out++a.extract ia a.size++b.extract ib b.size
   out:=out.push (<-elem' b ib);ib:=ib+1
   if ib==b.size then return out++a.extract ia a.size++b.extract ib b.size
   let Φ k <-za2 Δ (<-elem' a ia) b ib (b.size-ib) 0|return out++a.extract ia a.size++b.extract ib b.size
   bcount:=k
   if k>0 then
    out:=out++b.extract ib (ib+k);ib:=ib+k
    if ib==b.size then return out++a.extract ia a.size++b.extract ib b.size
   out:=out.push (<-elem' a ia);ia:=ia+1
   if ia+1==a.size then return out++b.extract ib b.size++a.extract ia a.size
   if acount<7&&bcount<7 then break
  minGallop:=minGallop+1
  modify (setG · minGallop)
 unsupported "internal:list.sort.merge-bound"):=rfl
def zgP(a b:Array Keyed):zdd a b=(do
 rule "list.sort.merge-hi"
 let mut na:=a.size-1;let mut nb:=b.size;let mut out:Array Keyed:=#[<-elem' a na]
 if na==0 then return a.extract 0 na++b.extract 0 nb++out.reverse
 if nb==1 then return b.extract 0 nb++a.extract 0 na++out.reverse
 let mut minGallop:=gallopOf (<-get)
 for _ in [0:a.size+b.size] do
  let mut acount:=0;let mut bcount:=0
  for _ in [0:a.size+b.size] do
   let Φ aWins <-lt' (<-elem' b (nb-1)) (<-elem' a (na-1))|return a.extract 0 na++b.extract 0 nb++out.reverse
   if aWins then
    na:=na-1;out:=out.push (<-elem' a na);acount:=acount+1;bcount:=0
    if na==0 then return a.extract 0 na++b.extract 0 nb++out.reverse
    if acount≥minGallop then break
   else
    nb:=nb-1;out:=out.push (<-elem' b nb);bcount:=bcount+1;acount:=0
    if nb==1 then return b.extract 0 nb++a.extract 0 na++out.reverse
    if bcount≥minGallop then break
  rule "list.sort.gallop"
  minGallop:=minGallop+1
  for _ in [0:a.size+b.size] do
   if minGallop>1 then minGallop:=minGallop-1
   modify (setG · minGallop)
   let Φ at_ <-za2 Θ (<-elem' b (nb-1)) a 0 na (na-1)|return a.extract 0 na++b.extract 0 nb++out.reverse
   let k:=na-at_
   acount:=k
   if k>0 then
    out:=out++(a.extract at_ na).reverse;na:=at_
    if na==0 then return a.extract 0 na++b.extract 0 nb++out.reverse
   nb:=nb-1;out:=out.push (<-elem' b nb)
   if nb==1 then return b.extract 0 nb++a.extract 0 na++out.reverse
   let Φ at_ <-za2 Δ (<-elem' a (na-1)) b 0 nb (nb-1)|return a.extract 0 na++b.extract 0 nb++out.reverse
   let k:=nb-at_
   bcount:=k
   if k>0 then
    out:=out++(b.extract at_ nb).reverse;nb:=at_
    if nb==1 then return b.extract 0 nb++a.extract 0 na++out.reverse
    if nb==0 then return a.extract 0 na++b.extract 0 nb++out.reverse
   na:=na-1;out:=out.push (<-elem' a na)
   if na==0 then return a.extract 0 na++b.extract 0 nb++out.reverse
   if acount<7&&bcount<7 then break
  minGallop:=minGallop+1
  modify (setG · minGallop)
 unsupported "internal:list.sort.merge-bound"):=rfl
def zgQ(i:Nat):mergeAt' i=(do
 let s <-get
 let (Φ (sa,na,power),Φ (sb,nb,_)):=((pendingOf s)[i]?,(pendingOf s)[i+1]?)|unsupported "internal:list.sort.pending"
 set (setPending s (((pendingOf s).setIfInBounds i (sa,na+nb,power)).eraseIdxIfInBounds (i+1)))
 let Φ k <-za2 Θ (<-elem' (arrOf s) sb) (arrOf s) sa na 0|return Θ
 let (sa,na):=(sa+k,na-k)
 if na==0 then return Δ
 let Φ nb <-za2 Δ (<-elem' (arrOf s) (sa+na-1)) (arrOf s) sb nb (nb-1)|return Θ
 if nb==0 then return Δ
 let x:=(arrOf s).extract sa sb;let y:=(arrOf s).extract sb (sb+nb);let merged <-if na<=nb then zdc x y else zdd x y
 modify λs=>setArr s (merged.toList.zipIdx.foldl (λa (p,j)=>a.setIfInBounds (sa+j) p) (arrOf s))
 return (failedOf (<-get)).isNone):=rfl
section
variable{prog:Χ}{w:ϒ}{A:ϔ}{E:Ω->Ι->Prop}{s:Ι}{κ:SortKind}{rk:Keyed->Int}{T:List Keyed}
abbrev Looks(prog:Χ)(w:ϒ)(A:ϔ)(s:Ι)(κ:SortKind)(rk:Keyed->Int)(T:List Keyed):Prop:=∀x y (C:Bool->Ι->Prop),x∈T->y∈T->C (decide (rk x<rk y)) s->wpAny (model prog w) A (keyLt' κ x.1 y.1) C (λ_ _=>False) s
def zjJ(hc:Looks prog w A s κ rk T){x y:Keyed}{st:SortSt}{Q:Option Bool->SortSt->Prop}(hx:x∈T)(hy:y∈T)(hk:kindOf st=κ)(h:Q (Φ (decide (rk x<rk y))) st):wpS (model prog w) A E s (lt' x y) Q st:=by rw[lt'_eq];refine Ο (wpS_get ?_);rw[hk];refine Ο (wpS_lift (wpAny_attempt (Ϥ (hc x y (λb s'=>s'=s/\b=decide (rk x<rk y)) hx hy ⟨rfl,rfl⟩) ?_ λ_ _ z=>z.elim)));rintro b s' ⟨rfl,rfl⟩;exact⟨rfl,Τ h⟩
def zau{a:Array Keyed}{i:Nat}{st:SortSt}{Q:Keyed->SortSt->Prop}(hi:i<a.size)(h:Q a[i] st):wpS (model prog w) A E s (elem' a i) Q st:=by rw[elem'_eq,getElem?_pos a i hi];exact Τ h
structure Cut(b:Nat->Bool)(n k:Nat):Prop where
 le:k<=n
 yes:∀i,i<k->b i=Δ
 no:∀i,k<=i->i<n->b i=Θ
def zmH{bey:Nat->StateT SortSt Sem (Option Bool)}{b:Nat->Bool}{n:Nat}{st:SortSt}{Q:Option Nat->SortSt->Prop}(ask:∀i {Q:Option Bool->SortSt->Prop},i<n->Q (Φ (b i)) st->wpS (model prog w) A E s (bey i) Q st){lo hi:Nat}(h1:lo<=hi)(h2:hi<=n)
  (mono:∀i j,i<=j->j<n->b j=Δ->b i=Δ) (h3:∀i,i<lo->b i=Δ) (h4:∀i,hi<=i->i<n->b i=Θ) (h:∀k,Cut b n k->Q (Φ k) st) :
  wpS (model prog w) A E s (do
   let mut lo:=lo;let mut hi:=hi
   for _ in [0:n] do
    if lo≥hi then break
    let m:=lo+(hi-lo)/2
    let Φ more <-bey m|return Ψ
    if more then lo:=m+1 else hi:=m
   return Φ hi) Q st:=by
 dsimp only;refine Ο (ϫ (ϧ (I:=λx c st'=>st'=st/\∃lo hi,c=(Ψ,lo,hi)/\lo<=hi/\hi<=n/\hi-lo<=n-x/\(∀i,i<lo->b i=Δ)/\(∀i,hi<=i->i<n->b i=Θ))
  (Q:=λc st'=>st'=st/\∃lo k,c=(Ψ,lo,k)/\Cut b n k) ?_ ?_ ⟨rfl,lo,hi,rfl,h1,h2,by lia,h3,h4⟩) ?_)
 rintro x c st' _ hx ⟨rfl,lo,hi,rfl,a1,a2,a3,a4,a5⟩;dsimp only;by_cases z:lo≥hi;rw[if_pos z];exact Τ ⟨rfl,lo,hi,rfl,a2,λi hi=>a4 i (by lia),a5⟩;rw[if_neg z];refine Ο (ask _ (by lia) ?_);dsimp only;cases eb:b (lo+(hi-lo)/2) with|true=>exact Τ ⟨rfl,_,_,rfl,by lia,a2,by lia,λi hi=>mono i _ (Nat.le_of_lt_succ hi) (by lia) eb,a5⟩| false=>refine Τ ⟨rfl,_,_,rfl,by lia,by lia,by lia,a4,λi h1 h2=>?_⟩;cases e:b i with|false=>rfl|true=>rw[mono _ i h1 h2 e]at eb;cases eb
 rintro c st' ⟨rfl,lo,hi,rfl,a1,a2,a3,a4,a5⟩;exact⟨rfl,lo,hi,rfl,a2,λi hi=>a4 i (by lia),a5⟩;rintro c st' ⟨rfl,lo,k,rfl,ck⟩;exact Τ (h k ck)
def zbn{left:Bool}{key:Keyed}{arr:Array Keyed}{base n hint:Nat}{st:SortSt}{Q:Option Nat->SortSt->Prop}(b:Nat->Bool)(hc:Looks prog w A s κ rk T)(hk:kindOf st=κ)(hkey:key∈T)(hT:∀i (h:i<arr.size),arr[i]∈T)(hn:base+n<=arr.size)(hh:hint<n)
  (hb:∀i (h:base+i<arr.size),i<n->b i=if left then decide (rk arr[base+i]<rk key) else !decide (rk key<rk arr[base+i]))
  (mono:∀i j,i<=j->j<n->b j=Δ->b i=Δ) (h:∀k,Cut b n k->Q (Φ k) st):wpS (model prog w) A E s (za2 left key arr base n hint) Q st:=by
 have ask:∀i {Q:Option Bool->SortSt->Prop},i<n->Q (Φ (b i)) st->wpS (model prog w) A E s (zeD left key arr base i) Q st:=λi Q hi q=>by refine Ο (zau (show base+i<arr.size by lia) ?_);rw[hb i (by lia) hi]at q;cases left;exact Ο (zjJ hc hkey (hT _ _) hk (Τ q));exact zjJ hc (hT _ _) hkey hk q
 have mono':∀i j,i<=j->j<n->b i=Θ->b j=Θ:=λi j h1 h2 e=>by cases z:b j with|false=>rfl|true=>rw[mono i j h1 h2 z]at e;cases e
 rw[ziw];dsimp only;refine Ο (ask hint hh ?_);dsimp only;cases eh:b hint with
 |true=>
  rw[if_pos rfl];refine Ο (ϫ (ϧ (I:=λx c st'=>st'=st/\∃l o,c=(Ψ,l,o)/\l<o/\l<n-hint/\x<o/\b (hint+l)=Δ)
   (Q:=λc st'=>st'=st/\∃l o,c=(Ψ,l,o)/\l<o/\l<n-hint/\b (hint+l)=Δ/\(o<n-hint->b (hint+o)=Θ)) ?_ ?_ ⟨rfl,0,1,rfl,by lia,by lia,by lia,eh⟩) ?_)
  rintro x c st' _ hx ⟨rfl,l,o,rfl,a1,a2,a3,a4⟩;dsimp only;by_cases z:o≥n-hint;rw[if_pos z];exact Τ ⟨rfl,l,o,rfl,a1,a2,a4,λ_=>by lia⟩;rw[if_neg z];refine Ο (ask _ (by lia) ?_);dsimp only;cases eb:b (hint+o) with|false=>exact Τ ⟨rfl,l,o,rfl,a1,a2,a4,λ_=>eb⟩|true=>exact Τ ⟨rfl,o,_,rfl,by lia,by lia,by lia,eb⟩
  rintro c st' ⟨rfl,l,o,rfl,a1,a2,a3,a4⟩;exact⟨rfl,l,o,rfl,a1,a2,a4,λ_=>by lia⟩;rintro c st' ⟨rfl,l,o,rfl,a1,a2,a3,a4⟩;dsimp only;exact zmH ask (by lia) (by lia) mono (λi hi=>mono i (hint+l) (by lia) (by lia) a3) (λi h1 h2=>by by_cases z:o<n-hint;exact mono' _ i (by lia) h2 (a4 z);lia) h
 |false=>
  rw[if_neg Ε];refine Ο (ϫ (ϧ (I:=λx c st'=>st'=st/\∃l o,c=(Ψ,l,o)/\l<o/\l<hint+1/\x<o/\b (hint-l)=Θ)
   (Q:=λc st'=>st'=st/\∃l o,c=(Ψ,l,o)/\l<o/\l<hint+1/\b (hint-l)=Θ/\(o<hint+1->b (hint-o)=Δ)) ?_ ?_ ⟨rfl,0,1,rfl,by lia,by lia,by lia,eh⟩) ?_)
  rintro x c st' _ hx ⟨rfl,l,o,rfl,a1,a2,a3,a4⟩;dsimp only;by_cases z:o≥hint+1;rw[if_pos z];exact Τ ⟨rfl,l,o,rfl,a1,a2,a4,λ_=>by lia⟩;rw[if_neg z];refine Ο (ask _ (by lia) ?_);dsimp only;cases eb:b (hint-o) with|true=>exact Τ ⟨rfl,l,o,rfl,a1,a2,a4,λ_=>eb⟩|false=>exact Τ ⟨rfl,o,_,rfl,by lia,by lia,by lia,eb⟩
  rintro c st' ⟨rfl,l,o,rfl,a1,a2,a3,a4⟩;exact⟨rfl,l,o,rfl,a1,a2,a4,λ_=>by lia⟩;rintro c st' ⟨rfl,l,o,rfl,a1,a2,a3,a4⟩;dsimp only;exact zmH ask (by lia) (by lia) mono (λi hi=>by by_cases z:o<hint+1;exact mono i _ (by lia) (by lia) (a4 z);lia) (λi h1 h2=>mono' _ i h1 h2 a3) h
end
section
variable{rk:Keyed->Int}{T out xs ys us:List Keyed}
abbrev Le(rk:Keyed->Int)(x y:Keyed):Prop:=rk x<=rk y
structure MI(rk:Keyed->Int)(T out xs ys:List Keyed):Prop where
 perm:(out++(xs++ys)).Perm T
 so:out.Pairwise (Le rk)
 sx:xs.Pairwise (Le rk)
 sy:ys.Pairwise (Le rk)
 lo:∀x∈out,∀y,y∈xs\/y∈ys->rk x<=rk y
def MI.swap(h:MI rk T out xs ys):MI rk T out ys xs:=⟨(List.Perm.append_left _ List.perm_append_comm).trans h.perm,h.so,h.sy,h.sx,λx hx y hy=>h.lo x hx y hy.symm⟩
def MI.push(h:MI rk T out (us++xs) ys)(hu:∀u∈us,∀y∈ys,rk u<=rk y):MI rk T (out++us) xs ys:=by have q:=List.pairwise_append.mp h.sx;refine⟨?_,List.pairwise_append.mpr ⟨h.so,q.1,λx hx y hy=>h.lo x hx y (.inl (mem_append_left _ hy))⟩,q.2.1,h.sy,λx hx y hy=>?_⟩;have:=h.perm;simpa only [append_assoc]using this;rcases mem_append.mp hx with z|z;exact h.lo x z y (hy.imp (mem_append_right _) id);rcases hy with hy|hy;exact q.2.2 x z y hy;exact hu x z y hy
abbrev InOrd(rk:Keyed->Int)(T l:List Keyed):Prop:=l.Perm T/\l.Pairwise (Le rk)
def MI.fin(h:MI rk T out xs []):InOrd rk T (out++xs):=⟨by simpa using h.perm,List.pairwise_append.mpr ⟨h.so,h.sx,λx hx y hy=>h.lo x hx y (.inl hy)⟩⟩
def MI.last(h:MI rk T out xs ys)(hu:∀u∈ys,∀y∈xs,rk u<=rk y):InOrd rk T (out++ys++xs):=by have:=MI.push (us:=ys) (xs:=[]) (by rw[append_nil];exact h.swap) hu;exact this.swap.fin
def zox{l:List Keyed}{i:Nat}(hi:i<l.length):l.drop i=l[i]::l.drop (i+1):=List.drop_eq_getElem_cons hi
def zki{l:List Keyed}(hs:l.Pairwise (Le rk)){i j:Nat}(hj:j<l.length)(hi:i<=j):rk l[i]<=rk l[j]:=by by_cases e:i=j;subst e;exact Int.le_refl _;exact List.pairwise_iff_getElem.mp hs i j _ _ (by lia)
def zb3{l:List Keyed}{i:Nat}{y:Keyed}(h:y∈l.drop i):∃j,∃hj:j<l.length,i<=j/\y=l[j]:=by let⟨k,hk,e⟩:=ϖ.mp h;rw[List.getElem_drop]at e;rw[List.length_drop]at hk;exact⟨i+k,by lia,by lia,e.symm⟩
def zjG{l:List Keyed}{i k:Nat}{y:Keyed}(h:y∈(l.drop i).take k):∃j,∃hj:i+j<l.length,j<k/\y=l[i+j]:=by let⟨j,hj,e⟩:=ϖ.mp h;rw[List.getElem_take,List.getElem_drop]at e;rw[length_take,List.length_drop]at hj;exact⟨j,by omega,by omega,e.symm⟩
def zk2(l:List Keyed)(i k:Nat):l.drop i=(l.drop i).take k++l.drop (i+k):=by rw[<-List.drop_drop,List.take_append_drop]
def zkr(a:Array Keyed)(i k:Nat):(a.extract i (i+k)).toList=(a.toList.drop i).take k:=by rw[Array.toList_extract,List.extract_eq_take_drop];congr 1;lia
def zdf(a:Array Keyed)(i:Nat):(a.extract i a.size).toList=a.toList.drop i:=by rw[Array.toList_extract,List.extract_eq_take_drop,List.take_of_length_le (by simp)]
end
noncomputable abbrev Rt(β:Type):=ForInStep (Option (Array Keyed)×β)
abbrev mgO{β γ δ:Type}(t:Nat)(f1:γ->β)(f2:γ->β->γ)(f3:γ->β->δ)(f4 f5:δ->γ)(gg:δ->Nat)(L:γ->β->StateT SortSt Sem (Rt β))(G:δ->StateT SortSt Sem (Rt δ))(c:Option (Array Keyed)×γ):StateT SortSt Sem (Rt γ):=do
 let d <-forIn [0:t] ((Ψ,f1 c.2):Option (Array Keyed)×β) λ_ d=>L c.2 d.2
 match d.1 with
 |some r=>pure (.done (Φ r,f2 c.2 d.2))
 | none=>do
   rule "list.sort.gallop"
   let e <-forIn [0:t] ((Ψ,f3 c.2 d.2):Option (Array Keyed)×δ) λ_ e=>G e.2
   match e.1 with
   |some r=>pure (.done (Φ r,f4 e.2))
   | none=>do
     modify (setG · (gg e.2))
     pure (.yield (Ψ,f5 e.2))
abbrev mg{β γ δ:Type}(t:Nat)(f0:Nat->γ)(f1:γ->β)(f2:γ->β->γ)(f3:γ->β->δ)(f4 f5:δ->γ)(gg:δ->Nat)(L:γ->β->StateT SortSt Sem (Rt β))(G:δ->StateT SortSt Sem (Rt δ)):StateT SortSt Sem (Array Keyed):=do
 let g:=gallopOf (<-get);let c <-forIn [0:t] ((Ψ,f0 g):Option (Array Keyed)×γ) λ_ c=>mgO t f1 f2 f3 f4 f5 gg L G c
 match c.1 with|some r=>pure r|none=>unsupported "internal:list.sort.merge-bound"
abbrev loC(a b out:Array Keyed)(ia ib g k l:Nat):StateT SortSt Sem (Rt (Array Keyed×Nat×Nat×Nat×Nat×Nat)):=do
 let y <-elem' a ia
 if ia+1+1==a.size then pure (.done (Φ (out.push y++b.extract ib b.size++a.extract (ia+1) a.size),out.push y,ia+1,ib,g,k,l))
 else if k<7&&l<7 then pure (.done (Ψ,out.push y,ia+1,ib,g,k,l)) else pure (.yield (Ψ,out.push y,ia+1,ib,g,k,l))
abbrev loB(a b out:Array Keyed)(ia ib g k l:Nat):StateT SortSt Sem (Rt (Array Keyed×Nat×Nat×Nat×Nat×Nat)):=do
 let y <-elem' b ib
 if ib+1==b.size then pure (.done (Φ (out.push y++a.extract ia a.size++b.extract (ib+1) b.size),out.push y,ia,ib+1,g,k,l))
 else do
  match <-za2 Δ (<-elem' a ia) b (ib+1) (b.size-(ib+1)) 0 with
  |some m=>
   if m>0 then
    if ib+1+m==b.size then pure (.done (Φ (out.push y++b.extract (ib+1) (ib+1+m)++a.extract ia a.size++b.extract (ib+1+m) b.size),out.push y++b.extract (ib+1) (ib+1+m),ia,ib+1+m,g,k,m))
    else loC a b (out.push y++b.extract (ib+1) (ib+1+m)) ia (ib+1+m) g k m
   else loC a b (out.push y) ia (ib+1) g k m
  |_=>pure (.done (Φ (out.push y++a.extract ia a.size++b.extract (ib+1) b.size),out.push y,ia,ib+1,g,k,l))
abbrev loA(a b out:Array Keyed)(ia ib g k l:Nat):StateT SortSt Sem (Rt (Array Keyed×Nat×Nat×Nat×Nat×Nat)):=do
 modify (setG · g)
 match <-za2 Θ (<-elem' b ib) a ia (a.size-ia) 0 with
 |some m=>
  if m>0 then
   if ia+m+1==a.size then pure (.done (Φ (out++a.extract ia (ia+m)++b.extract ib b.size++a.extract (ia+m) a.size),out++a.extract ia (ia+m),ia+m,ib,g,m,l))
   else if ia+m==a.size then pure (.done (Φ (out++a.extract ia (ia+m)++a.extract (ia+m) a.size++b.extract ib b.size),out++a.extract ia (ia+m),ia+m,ib,g,m,l))
   else loB a b (out++a.extract ia (ia+m)) (ia+m) ib g m l
  else loB a b out ia ib g m l
 |_=>pure (.done (Φ (out++a.extract ia a.size++b.extract ib b.size),out,ia,ib,g,k,l))
abbrev loL(a b:Array Keyed)(g:Nat)(out:Array Keyed)(i j k l:Nat):StateT SortSt Sem (Rt (Array Keyed×Nat×Nat×Nat×Nat)):=do
 match <-lt' (<-elem' b j) (<-elem' a i) with
 |some z=>
  if z then
   let y <-elem' b j
   if j+1==b.size then pure (.done (Φ (out.push y++a.extract i a.size++b.extract (j+1) b.size),out.push y,i,j+1,0,l+1))
   else if l+1≥g then pure (.done (Ψ,out.push y,i,j+1,0,l+1)) else pure (.yield (Ψ,out.push y,i,j+1,0,l+1))
  else
   let y <-elem' a i
   if i+1+1==a.size then pure (.done (Φ (out.push y++b.extract j b.size++a.extract (i+1) a.size),out.push y,i+1,j,k+1,0))
   else if k+1≥g then pure (.done (Ψ,out.push y,i+1,j,k+1,0)) else pure (.yield (Ψ,out.push y,i+1,j,k+1,0))
 |_=>pure (.done (Φ (out++a.extract i a.size++b.extract j b.size),out,i,j,k,l))
abbrev loM(a b out:Array Keyed)(i j:Nat):StateT SortSt Sem (Array Keyed):=
 mg (a.size+b.size) (λg=>(out,i,j,g)) (λc=>(c.1,c.2.1,c.2.2.1,0,0)) (λc d=>(d.1,d.2.1,d.2.2.1,c.2.2.2)) (λc d=>(d.1,d.2.1,d.2.2.1,c.2.2.2+1,d.2.2.2.1,d.2.2.2.2))
  (λe=>(e.1,e.2.1,e.2.2.1,e.2.2.2.1)) (λe=>(e.1,e.2.1,e.2.2.1,e.2.2.2.1+1)) (λe=>e.2.2.2.1+1) (λc d=>loL a b c.2.2.2 d.1 d.2.1 d.2.2.1 d.2.2.2.1 d.2.2.2.2)
  λe=>if e.2.2.2.1>1 then loA a b e.1 e.2.1 e.2.2.1 (e.2.2.2.1-1) e.2.2.2.2.1 e.2.2.2.2.2 else loA a b e.1 e.2.1 e.2.2.1 e.2.2.2.1 e.2.2.2.2.1 e.2.2.2.2.2
def zig(a b:Array Keyed):zdc a b=(do
 rule "list.sort.merge-lo"
 let y <-elem' b 0
 if 1==b.size then return #[y]++a.extract 0 a.size++b.extract 1 b.size
 if 0+1==a.size then return #[y]++b.extract 1 b.size++a.extract 0 a.size
 loM a b #[y] 0 1):=by
 rw[zgO];dsimp only;unfold loM mg;refine congrArg (bind _) (funext λ_=>congrArg (bind _) (funext λy=>?_));refine ite_congr rfl (λ_=>rfl) λ_=>ite_congr rfl (λ_=>rfl) λ_=>?_;refine congrArg (bind _) (funext λg=>?_);congr 1;congr 1;funext x c;unfold mgO;congr 1;funext d;cases d.1 with|some r=>rfl| none=>dsimp only;refine congrArg (bind _) (funext λ_=>?_);congr 1;funext e;cases e.1<;>rfl
 . funext c;cases c.1<;>rfl
abbrev hiC(a b out:Array Keyed)(na nb g k l:Nat):StateT SortSt Sem (Rt (Nat×Nat×Array Keyed×Nat×Nat×Nat)):=do
 let y <-elem' a (na-1)
 if na-1==0 then pure (.done (Φ (a.extract 0 (na-1)++b.extract 0 nb++(out.push y).reverse),na-1,nb,out.push y,g,k,l))
 else if k<7&&l<7 then pure (.done (Ψ,na-1,nb,out.push y,g,k,l)) else pure (.yield (Ψ,na-1,nb,out.push y,g,k,l))
abbrev hiB(a b out:Array Keyed)(na nb g k l:Nat):StateT SortSt Sem (Rt (Nat×Nat×Array Keyed×Nat×Nat×Nat)):=do
 let y <-elem' b (nb-1)
 if nb-1==1 then pure (.done (Φ (b.extract 0 (nb-1)++a.extract 0 na++(out.push y).reverse),na,nb-1,out.push y,g,k,l))
 else do
  match <-za2 Δ (<-elem' a (na-1)) b 0 (nb-1) (nb-1-1) with
  |some m=>
   if nb-1-m>0 then
    if m==1 then pure (.done (Φ (b.extract 0 m++a.extract 0 na++(out.push y++(b.extract m (nb-1)).reverse).reverse),na,m,out.push y++(b.extract m (nb-1)).reverse,g,k,nb-1-m))
    else if m==0 then pure (.done (Φ (a.extract 0 na++b.extract 0 m++(out.push y++(b.extract m (nb-1)).reverse).reverse),na,m,out.push y++(b.extract m (nb-1)).reverse,g,k,nb-1-m))
    else hiC a b (out.push y++(b.extract m (nb-1)).reverse) na m g k (nb-1-m)
   else hiC a b (out.push y) na (nb-1) g k (nb-1-m)
  |_=>pure (.done (Φ (a.extract 0 na++b.extract 0 (nb-1)++(out.push y).reverse),na,nb-1,out.push y,g,k,l))
abbrev hiA(a b out:Array Keyed)(na nb g k l:Nat):StateT SortSt Sem (Rt (Nat×Nat×Array Keyed×Nat×Nat×Nat)):=do
 modify (setG · g)
 match <-za2 Θ (<-elem' b (nb-1)) a 0 na (na-1) with
 |some m=>
  if na-m>0 then
   if m==0 then pure (.done (Φ (a.extract 0 m++b.extract 0 nb++(out++(a.extract m na).reverse).reverse),m,nb,out++(a.extract m na).reverse,g,na-m,l))
   else hiB a b (out++(a.extract m na).reverse) m nb g (na-m) l
  else hiB a b out na nb g (na-m) l
 |_=>pure (.done (Φ (a.extract 0 na++b.extract 0 nb++out.reverse),na,nb,out,g,k,l))
abbrev hiL(a b:Array Keyed)(g:Nat)(out:Array Keyed)(i j k l:Nat):StateT SortSt Sem (Rt (Nat×Nat×Array Keyed×Nat×Nat)):=do
 match <-lt' (<-elem' b (j-1)) (<-elem' a (i-1)) with
 |some z=>
  if z then
   let y <-elem' a (i-1)
   if i-1==0 then pure (.done (Φ (a.extract 0 (i-1)++b.extract 0 j++(out.push y).reverse),i-1,j,out.push y,k+1,0))
   else if k+1≥g then pure (.done (Ψ,i-1,j,out.push y,k+1,0)) else pure (.yield (Ψ,i-1,j,out.push y,k+1,0))
  else
   let y <-elem' b (j-1)
   if j-1==1 then pure (.done (Φ (b.extract 0 (j-1)++a.extract 0 i++(out.push y).reverse),i,j-1,out.push y,0,l+1))
   else if l+1≥g then pure (.done (Ψ,i,j-1,out.push y,0,l+1)) else pure (.yield (Ψ,i,j-1,out.push y,0,l+1))
 |_=>pure (.done (Φ (a.extract 0 i++b.extract 0 j++out.reverse),i,j,out,k,l))
abbrev hiM(a b out:Array Keyed)(i j:Nat):StateT SortSt Sem (Array Keyed):=
 mg (a.size+b.size) (λg=>(i,j,out,g)) (λc=>(c.1,c.2.1,c.2.2.1,0,0)) (λc d=>(d.1,d.2.1,d.2.2.1,c.2.2.2)) (λc d=>(d.1,d.2.1,d.2.2.1,c.2.2.2+1,d.2.2.2.1,d.2.2.2.2))
  (λe=>(e.1,e.2.1,e.2.2.1,e.2.2.2.1)) (λe=>(e.1,e.2.1,e.2.2.1,e.2.2.2.1+1)) (λe=>e.2.2.2.1+1) (λc d=>hiL a b c.2.2.2 d.2.2.1 d.1 d.2.1 d.2.2.2.1 d.2.2.2.2)
  λe=>if e.2.2.2.1>1 then hiA a b e.2.2.1 e.1 e.2.1 (e.2.2.2.1-1) e.2.2.2.2.1 e.2.2.2.2.2 else hiA a b e.2.2.1 e.1 e.2.1 e.2.2.2.1 e.2.2.2.2.1 e.2.2.2.2.2
def zii(a b:Array Keyed):zdd a b=(do
 rule "list.sort.merge-hi"
 let y <-elem' a (a.size-1)
 if a.size-1==0 then return a.extract 0 (a.size-1)++b.extract 0 b.size ++ #[y].reverse
 if b.size==1 then return b.extract 0 b.size++a.extract 0 (a.size-1) ++ #[y].reverse
 hiM a b #[y] (a.size-1) b.size):=by
 rw[zgP];dsimp only;unfold hiM mg;refine congrArg (bind _) (funext λ_=>congrArg (bind _) (funext λy=>?_));refine ite_congr rfl (λ_=>rfl) λ_=>ite_congr rfl (λ_=>rfl) λ_=>?_;refine congrArg (bind _) (funext λg=>?_);congr 1;congr 1;funext x c;unfold mgO;congr 1;funext d;cases d.1 with|some r=>rfl| none=>dsimp only;refine congrArg (bind _) (funext λ_=>?_);congr 1;funext e;cases e.1<;>rfl
 . funext c;cases c.1<;>rfl
section
variable{prog:Χ}{w:ϒ}{A:ϔ}{E:Ω->Ι->Prop}{s:Ι}{st₀:SortSt}
abbrev SG(st₀ st:SortSt):Prop:=∃g,st=setG st₀ g
abbrev Tn{β:Type}(st₀:SortSt)(Go:Array Keyed->Prop)(J:β->Prop)(r:Rt β)(st:SortSt):Prop:=SG st₀ st/\match r with|.done (Φ o,_)=>Go o|.done (Ψ,d)=>J d|.yield (Φ _,_)=>False|.yield (Ψ,d)=>J d
abbrev Ln{β:Type}(st₀:SortSt)(Go:Array Keyed->Prop)(J:β->Prop)(r:Option (Array Keyed)×β)(st:SortSt):Prop:=SG st₀ st/\match r with|(Φ o,_)=>Go o|(Ψ,d)=>J d
def zjT{β:Type}{t k:Nat}{Go:Array Keyed->Prop}{J:Nat->β->Prop}{L:β->StateT SortSt Sem (Rt β)}{d:β}{st:SortSt}(h1:1<=t)(mono:∀i j d,i<=j->J j d->J i d)
  (hL:∀i d st,SG st₀ st->J i d->wpS (model prog w) A E s (L d) (Tn st₀ Go (J (i+1))) st) (hst:SG st₀ st) (h:J k d) :
  wpS (model prog w) A E s (forIn [0:t] ((Ψ,d):Option (Array Keyed)×β) λ_ d=>L d.2) (Ln st₀ Go (J (k+1))) st:=by
 refine ϧ (I:=λx c st=>SG st₀ st/\∃d,c=(Ψ,d)/\J (k+x) d) ?_ ?_ ⟨hst,d,rfl,h⟩
 . rintro x c st _ hx ⟨q,d,rfl,hd⟩;refine ϫ (hL _ d st q hd) ?_;rintro r st' ⟨q',h'⟩
   match r,h' with|.done (Φ o,_),h'=>exact⟨q',h'⟩|.done (Ψ,d),h'=>exact⟨q',mono _ _ _ (by lia) h'⟩|.yield (Ψ,d),h'=>exact⟨q',d,rfl,h'⟩
 rintro c st ⟨q,d,rfl,hd⟩;exact⟨q,mono _ _ _ (by lia) hd⟩
def SG.set{st:SortSt}(h:SG st₀ st)(g:Nat):SG st₀ (setG st g):=by let⟨_,rfl⟩:=h;exact⟨g,rfl⟩
def zqs{β γ δ:Type}{t:Nat}{f0:Nat->γ}{f1:γ->β}{f2:γ->β->γ}{f3:γ->β->δ}{f4 f5:δ->γ}{gg:δ->Nat}{L:γ->β->StateT SortSt Sem (Rt β)}{G:δ->StateT SortSt Sem (Rt δ)}{Q:Array Keyed->SortSt->Prop}{Go:Array Keyed->Prop}(B:Nat->β->Prop)(C:Nat->γ->Prop)(D:Nat->δ->Prop)
  (b1:∀i j d,i<=j->B j d->B i d) (d1:∀i j d,i<=j->D j d->D i d) (h1:∀k c,C k c->B k (f1 c)) (h3:∀k c d,B k d->D k (f3 c d)) (h5:∀k e,D k e->C k (f5 e)) (ht:∀k c,C k c->k<t)
  (hL:∀c i d st,SG st₀ st->B i d->wpS (model prog w) A E s (L c d) (Tn st₀ Go (B (i+1))) st) (hG:∀i d st,SG st₀ st->D i d->wpS (model prog w) A E s (G d) (Tn st₀ Go (D (i+1))) st)
  (h0:∀g,C 0 (f0 g)) (hQ:∀r st,SG st₀ st->Go r->Q r st):wpS (model prog w) A E s (mg t f0 f1 f2 f3 f4 f5 gg L G) Q st₀:=by
 unfold mg;refine Ο (wpS_get ?_);have t1:1<=t:=ht 0 _ (h0 0);refine Ο (ϫ (ϧ (I:=λx c st=>SG st₀ st/\∃d,c=(Ψ,d)/\C x d) (Q:=λc st=>SG st₀ st/\∃o d,c=(Φ o,d)/\Go o) ?_ ?_ ⟨⟨_,rfl⟩,_,rfl,h0 _⟩) ?_);rintro x c st _ hx ⟨q,c,rfl,hc⟩;unfold mgO;refine Ο (ϫ (zjT (st₀:=st₀) (Go:=Go) (J:=B) (k:=x) t1 b1 (hL c) q (h1 _ _ hc)) ?_);rintro⟨r,d⟩ st' ⟨q',hd⟩;cases r with|some o=>exact Τ ⟨q',o,_,rfl,hd⟩| none=>refine Ο (wpS_lift (Ϭ ⟨rfl,?_⟩));refine Ο (ϫ (zjT (st₀:=st₀) (Go:=Go) (J:=D) (k:=x+1) t1 d1 hG q' (h3 _ _ _ hd)) ?_);rintro⟨r,e⟩ st' ⟨q',he⟩;cases r with|some o=>exact Τ ⟨q',o,_,rfl,he⟩|none=>exact Ο (wpS_modify (Τ ⟨q'.set _,_,rfl,h5 _ _ (d1 _ _ _ (le_succ _) he)⟩))
 rintro c st ⟨q,d,rfl,hd⟩;have:=ht _ _ hd;lia;rintro c st ⟨q,o,d,rfl,ho⟩;exact Τ (hQ o st q ho)
end
section
variable{rk:Keyed->Int}{T out ys l:List Keyed}{i k:Nat}
def MI.one(h:MI rk T out (l.drop i) ys)(hi:i<l.length)(hu:∀y∈ys,rk l[i]<=rk y):MI rk T (out++[l[i]]) (l.drop (i+1)) ys:=by rw[zox hi]at h;exact MI.push (us:=[l[i]]) h λu q=>by rw[mem_singleton.mp q];exact hu
def MI.seg(h:MI rk T out (l.drop i) ys)(k:Nat)(hu:∀u∈(l.drop i).take k,∀y∈ys,rk u<=rk y):MI rk T (out++(l.drop i).take k) (l.drop (i+k)) ys:=by rw[zk2 l i k]at h;exact MI.push h hu
end
section
variable{prog:Χ}{w:ϒ}{A:ϔ}{E:Ω->Ι->Prop}{s:Ι}{κ:SortKind}{rk:Keyed->Int}{T:List Keyed}{a b out:Array Keyed}{ia ib:Nat}{st₀ st:SortSt}
structure Two(prog:Χ)(w:ϒ)(A:ϔ)(s:Ι)(κ:SortKind)(rk:Keyed->Int)(T:List Keyed)(a b:Array Keyed)(st₀:SortSt):Prop where
 hc:Looks prog w A s κ rk T
 hk:kindOf st₀=κ
 ta:∀i (h:i<a.size),a[i]∈T
 tb:∀i (h:i<b.size),b[i]∈T
 sa:a.toList.Pairwise (Le rk)
 sb:b.toList.Pairwise (Le rk)
 na:0<a.size
 nb:0<b.size
 h1:∀i (h:i<a.size),rk b[0]<rk a[i]
 h2:∀i (h:i<b.size),rk b[i]<rk a[a.size-1]
def Two.kind(t:Two prog w A s κ rk T a b st₀)(h:SG st₀ st):kindOf st=κ:=by let⟨_,rfl⟩:=h;exact t.hk
def Two.la(t:Two prog w A s κ rk T a b st₀){i j:Nat}(hj:j<a.size)(hi:i<=j):rk a[i]<=rk a[j]:=zki (l:=a.toList) t.sa (by simpa using hj) hi
def Two.lb(t:Two prog w A s κ rk T a b st₀){i j:Nat}(hj:j<b.size)(hi:i<=j):rk b[i]<=rk b[j]:=zki (l:=b.toList) t.sb (by simpa using hj) hi
noncomputable abbrev LoM(rk:Keyed->Int)(a b out:Array Keyed)(ia ib:Nat):Prop:=MI rk (a.toList++b.toList) out.toList (a.toList.drop ia) (b.toList.drop ib)
def LoM.done(m:LoM rk a b out ia ib)(e:ib=b.size\/ia=a.size):InOrd rk (a.toList++b.toList) (out++a.extract ia a.size++b.extract ib b.size).toList:=by rw[ϕ,ϕ,zdf,zdf];rcases e with rfl|rfl;have z:b.toList.drop b.size=[]:=List.drop_eq_nil_of_le (by simp);rw[LoM,z]at m;rw[z,append_nil];exact m.fin;have z:a.toList.drop a.size=[]:=List.drop_eq_nil_of_le (by simp);rw[LoM,z]at m;rw[z,append_nil];exact m.swap.fin
def LoM.last(t:Two prog w A s κ rk T a b st₀)(m:LoM rk a b out ia ib)(e:ia+1=a.size):InOrd rk (a.toList++b.toList) (out++b.extract ib b.size++a.extract ia a.size).toList:=by
 rw[ϕ,ϕ,zdf,zdf];refine MI.last m λu hu y hy=>?_;let⟨j,hj,h1,rfl⟩:=zb3 hu;let⟨i,hi,h2,rfl⟩:=zb3 hy;have:i=a.size-1:=by simp at hi;omega
 subst this;have:=t.h2 j (by simpa using hj);simp![ϡ];omega
def LoM.pa(t:Two prog w A s κ rk T a b st₀)(m:LoM rk a b out ia ib)(ha:ia<a.size)(h:∀j (hj:j<b.size),ib<=j->rk a[ia]<=rk b[j]):LoM rk a b (out.push a[ia]) (ia+1) ib:=by rw[LoM,Array.toList_push];refine MI.one (l:=a.toList) m (by simpa using ha) λy hy=>?_;let⟨j,hj,h1,rfl⟩:=zb3 hy;exact h j (by simpa using hj) h1
def LoM.pb(t:Two prog w A s κ rk T a b st₀)(m:LoM rk a b out ia ib)(hb:ib<b.size)(h:∀j (hj:j<a.size),ia<=j->rk b[ib]<=rk a[j]):LoM rk a b (out.push b[ib]) ia (ib+1):=by rw[LoM,Array.toList_push];refine(MI.one (l:=b.toList) m.swap (by simpa using hb) λy hy=>?_).swap;let⟨j,hj,h1,rfl⟩:=zb3 hy;exact h j (by simpa using hj) h1
def LoM.qa(m:LoM rk a b out ia ib){k:Nat}(h:∀i (hi:ia+i<a.size) j (hj:j<b.size),i<k->ib<=j->rk a[ia+i]<=rk b[j]):LoM rk a b (out++a.extract ia (ia+k)) (ia+k) ib:=by rw[LoM,ϕ,zkr];refine MI.seg (l:=a.toList) m k λu hu y hy=>?_;let⟨j,hj,h1,rfl⟩:=zb3 hy;let⟨i,hi,h2,rfl⟩:=zjG hu;exact h i (by simpa using hi) j (by simpa using hj) h2 h1
def LoM.qb(m:LoM rk a b out ia ib){k:Nat}(h:∀i (hi:ib+i<b.size) j (hj:j<a.size),i<k->ia<=j->rk b[ib+i]<=rk a[j]):LoM rk a b (out++b.extract ib (ib+k)) ia (ib+k):=by rw[LoM,ϕ,zkr];refine(MI.seg (l:=b.toList) m.swap k λu hu y hy=>?_).swap;let⟨j,hj,h1,rfl⟩:=zb3 hy;let⟨i,hi,h2,rfl⟩:=zjG hu;exact h i (by simpa using hi) j (by simpa using hj) h2 h1
structure LoI(rk:Keyed->Int)(a b:Array Keyed)(k:Nat)(out:Array Keyed)(ia ib:Nat):Prop where
 m:LoM rk a b out ia ib
 i:ia+1<a.size
 j:ib<b.size
 k:k<ia+ib
def zqB{k g x y:Nat}(t:Two prog w A s κ rk T a b st₀)(h:LoI rk a b k out ia ib)(hs:SG st₀ st):wpS (model prog w) A E s (loL a b g out ia ib x y) (Tn st₀ (λr=>InOrd rk (a.toList++b.toList) r.toList) λd=>LoI rk a b (k+1) d.1 d.2.1 d.2.2.1) st:=by
 have hi:=h.i;have hj:=h.j;have hk:=h.k;have ha:ia<a.size:=by lia
 unfold loL;refine Ο (zau hj (Ο (zau ha (Ο (zjJ t.hc (t.tb _ _) (t.ta _ _) (t.kind hs) ?_)))));dsimp only;by_cases c:rk b[ib]<rk a[ia];rw[decide_eq_true c,if_pos rfl];have m:=h.m.pb t hj λj hj h=>by have:=t.la hj h;lia
 refine Ο (zau hj ?_);by_cases e:ib+1=b.size;rw[if_pos (by simpa using e)];exact Τ ⟨hs,m.done (.inl e)⟩
 . rw[if_neg (by simpa using e)];have n:LoI rk a b (k+1) _ _ _:=⟨m,hi,by lia,by lia⟩;split<;>exact Τ ⟨hs,n⟩
 rw[decide_eq_false c,if_neg Ε];have m:=h.m.pa t ha λj hj h=>by have:=t.lb hj h;lia
 refine Ο (zau ha ?_);by_cases e:ia+1+1=a.size;rw[if_pos (by simpa using e)];exact Τ ⟨hs,m.last t e⟩
 . rw[if_neg (by simpa using e)];have n:LoI rk a b (k+1) _ _ _:=⟨m,by lia,hj,by lia⟩;split<;>exact Τ ⟨hs,n⟩
def zmv{k g x y:Nat}(t:Two prog w A s κ rk T a b st₀)(h:LoI rk a b k out ia ib)(hc:∀j (hj:j<b.size),ib<=j->rk (a[ia]'(Nat.lt_of_succ_lt h.i))<=rk b[j])(hs:SG st₀ st):wpS (model prog w) A E s (loC a b out ia ib g x y) (Tn st₀ (λr=>InOrd rk (a.toList++b.toList) r.toList) λd=>LoI rk a b (k+1) d.1 d.2.1 d.2.2.1) st:=by
 have hi:=h.i;have hj:=h.j;have hk:=h.k;have ha:ia<a.size:=by lia
 unfold loC;have m:=h.m.pa t ha hc;refine Ο (zau ha ?_);by_cases e:ia+1+1=a.size;rw[if_pos (by simpa using e)];exact Τ ⟨hs,m.last t e⟩
 . rw[if_neg (by simpa using e)];have n:LoI rk a b (k+1) _ _ _:=⟨m,by lia,hj,by lia⟩;split<;>exact Τ ⟨hs,n⟩
def Tn.up{β:Type}{Go:Array Keyed->Prop}{J J':β->Prop}{r:Rt β}(h:Tn st₀ Go J r st)(u:∀d,J d->J' d):Tn st₀ Go J' r st:=by
 let⟨q,h⟩:=h;refine⟨q,?_⟩
 match r,h with|.done (Φ o,_),h=>exact h|.done (Ψ,d),h=>exact u _ h|.yield (Ψ,d),h=>exact u _ h
def LoI.up{k l:Nat}(h:LoI rk a b l out ia ib)(e:k<=l):LoI rk a b k out ia ib:=⟨h.m,h.i,h.j,Nat.lt_of_le_of_lt e h.k⟩
def zmw{k g x y:Nat}(t:Two prog w A s κ rk T a b st₀)(h:LoI rk a b k out ia ib)(hc:∀j (hj:j<a.size),ia<=j->rk (b[ib]'h.j)<=rk a[j])(hs:SG st₀ st):wpS (model prog w) A E s (loB a b out ia ib g x y) (Tn st₀ (λr=>InOrd rk (a.toList++b.toList) r.toList) λd=>LoI rk a b (k+1) d.1 d.2.1 d.2.2.1) st:=by
 have hi:=h.i;have hj:=h.j;have hk:=h.k;have ha:ia<a.size:=by lia
 unfold loB;have m:=h.m.pb t hj hc;refine Ο (zau hj ?_);by_cases e:ib+1=b.size;rw[if_pos (by simpa using e)];exact Τ ⟨hs,m.done (.inl e)⟩;rw[if_neg (by simpa using e)];refine Ο (zau ha (Ο (zbn (T:=T) (λi=>decide (∃h:ib+1+i<b.size,rk b[ib+1+i]<rk a[ia])) t.hc (t.kind hs) (t.ta _ _) t.tb (by lia) (by lia) (λi h _=>?_) (λi j hij hj q=>?_) λm' c=>?_)));simp[h];have q:=of_decide_eq_true q;let⟨q1,q2⟩:=q;refine decide_eq_true ⟨by lia,?_⟩;have:=t.lb q1 (show ib+1+i<=ib+1+j by lia);lia;dsimp only;have le:=c.le;have yes:∀i (h:ib+1+i<b.size),i<m'->rk b[ib+1+i]<rk a[ia]:=λi _ hi=>(of_decide_eq_true (c.yes i hi)).2;have no:∀j (hj:j<b.size),ib+1+m'<=j->rk a[ia]<=rk b[j]:=λj hj q=>by
  have:=of_decide_eq_false (c.no (j-(ib+1)) (by lia) (by lia));have e:ib+1+(j-(ib+1))=j:=by lia
  simp![e]at this;exact Int.not_lt.mp λz=>this ⟨hj,z⟩
 by_cases c0:m'>0;rw[if_pos c0];have m2:=m.qb (k:=m') λi h1 j h2 h3 h4=>by have:=yes i h1 h3;have:=t.la h2 h4;lia
 by_cases e2:ib+1+m'=b.size;rw[if_pos (by simpa using e2)];exact Τ ⟨hs,m2.done (.inl e2)⟩;rw[if_neg (by simpa using e2)];exact ϫ (zmv t ⟨m2,hi,by lia,by lia⟩ no hs) λ_ _ z=>z.up λ_ z=>z.up (le_refl _);rw[if_neg c0];have:m'=0:=by lia
 subst this;exact ϫ (zmv t ⟨m,hi,by lia,by lia⟩ no hs) λ_ _ z=>z.up λ_ z=>z.up (le_refl _)
def zj0(x y:Int):decide (x<=y) = !decide (y<x):=by rw[<-decide_not];exact decide_eq_decide.mpr Int.not_lt.symm
def zqC{k g x y:Nat}(t:Two prog w A s κ rk T a b st₀)(h:LoI rk a b k out ia ib)(hs:SG st₀ st):wpS (model prog w) A E s (loA a b out ia ib g x y) (Tn st₀ (λr=>InOrd rk (a.toList++b.toList) r.toList) λd=>LoI rk a b (k+1) d.1 d.2.1 d.2.2.1) st:=by
 have hi:=h.i;have hj:=h.j;have hk:=h.k;have ha:ia<a.size:=by lia
 unfold loA;refine Ο (wpS_modify ?_);replace hs:=hs.set g;refine Ο (zau hj (Ο (zbn (T:=T) (λi=>decide (∃h:ia+i<a.size,rk a[ia+i]<=rk b[ib])) t.hc (t.kind hs) (t.tb _ _) t.ta (by lia) (by lia) (λi h _=>?_) (λi j hij hj q=>?_) λm' c=>?_)));simp[h,zj0];have q:=of_decide_eq_true q;let⟨q1,q2⟩:=q;refine decide_eq_true ⟨by lia,?_⟩;have:=t.la q1 (show ia+i<=ia+j by lia);lia;dsimp only;have le:=c.le;have yes:∀i (h:ia+i<a.size),i<m'->rk a[ia+i]<=rk b[ib]:=λi _ hi=>(of_decide_eq_true (c.yes i hi)).2;have no:∀j (hj:j<a.size),ia+m'<=j->rk b[ib]<=rk a[j]:=λj hj q=>by
  have:=of_decide_eq_false (c.no (j-ia) (by lia) (by lia));have e:ia+(j-ia)=j:=by lia
  simp![e]at this;exact Int.le_of_lt (Int.not_le.mp λz=>this ⟨hj,z⟩)
 by_cases c0:m'>0;rw[if_pos c0];have m2:=h.m.qa (k:=m') λi h1 j h2 h3 h4=>by have:=yes i h1 h3;have:=t.lb h2 h4;lia
 by_cases e2:ia+m'+1=a.size;rw[if_pos (by simpa using e2)];exact Τ ⟨hs,m2.last t e2⟩;rw[if_neg (by simpa using e2)];by_cases e3:ia+m'=a.size;rw[if_pos (by simpa using e3)];exact Τ ⟨hs,m2.done (.inr e3)⟩;rw[if_neg (by simpa using e3)];exact zmw t ⟨m2,by lia,hj,by lia⟩ no hs;rw[if_neg c0];have:m'=0:=by lia
 subst this;exact zmw t h no hs
def zif{Q:Array Keyed->SortSt->Prop}(t:Two prog w A s κ rk T a b st₀)(h:∀r st,SG st₀ st->InOrd rk (a.toList++b.toList) r.toList->Q r st):wpS (model prog w) A E s (zdc a b) Q st₀:=by
 rw[zig];have nb:=t.nb;have na:=t.na;have m:LoM rk a b #[b[0]] 0 1:=by have:=LoM.pb (out:=#[]) (ia:=0) (ib:=0) t ⟨by simp,.nil,t.sa,t.sb,by simp⟩ nb λj hj _=>Int.le_of_lt (t.h1 j hj);simpa using this
 refine Ο (wpS_lift (Ϭ ⟨rfl,Ο (zau nb ?_)⟩));by_cases e:1=b.size;rw[if_pos (by simpa using e)];exact Τ (h _ _ ⟨_,rfl⟩ (m.done (.inl e)));rw[if_neg (by simpa using e)];by_cases e2:0+1=a.size;rw[if_pos (by simpa using e2)];exact Τ (h _ _ ⟨_,rfl⟩ (m.last t e2))
 . rw[if_neg (by simpa using e2)];refine zqs (st₀:=st₀) (Go:=λr=>InOrd rk (a.toList++b.toList) r.toList) (λk d=>LoI rk a b k d.1 d.2.1 d.2.2.1) (λk d=>LoI rk a b k d.1 d.2.1 d.2.2.1) (λk d=>LoI rk a b k d.1 d.2.1 d.2.2.1)
    (λ_ _ _ q z=>z.up q) (λ_ _ _ q z=>z.up q) (λ_ _ z=>z) (λ_ _ _ z=>z) (λ_ _ z=>z) (λk c z=>by have:=z.i;have:=z.j;have:=z.k;lia)
    (λc i d st hs z=>zqB t z hs) (λi d st hs z=>?_) (λg=>(⟨m,by lia,by lia,by lia⟩:LoI rk a b 0 #[b[0]] 0 1)) h
   split<;>exact zqC t z hs
end
section
variable{rk:Keyed->Int}{T out ys l:List Keyed}{n m:Nat}
def MI.oneR(h:MI rk T out (l.take n).reverse ys)(h0:0<n)(hn:n-1<l.length)(hu:∀y∈ys,rk l[n-1]<=rk y):MI rk T (out++[l[n-1]]) (l.take (n-1)).reverse ys:=by
 have e:l.take n=l.take (n-1)++[l[n-1]]:=by obtain⟨k,rfl⟩:∃k,n=k+1:=⟨n-1,by lia⟩;exact(List.take_append_getElem hn).symm
 rw[e,List.reverse_append]at h;exact MI.push (us:=[l[n-1]]) h λu q=>by rw[mem_singleton.mp q];exact hu
def MI.segR(h:MI rk T out (l.take n).reverse ys)(hm:m<=n)(hu:∀u∈(l.take n).drop m,∀y∈ys,rk u<=rk y):MI rk T (out++((l.take n).drop m).reverse) (l.take m).reverse ys:=by
 have e:l.take n=l.take m++(l.take n).drop m:=by have:=List.take_append_drop m (l.take n);rw[List.take_take,Nat.min_eq_left hm]at this;exact this.symm
 have h':=h;rw[e,List.reverse_append]at h';exact MI.push h' λu q=>hu u (List.mem_reverse.mp q)
def zbl{y:Keyed}(h:y∈(l.take n).reverse):∃j,∃hj:j<l.length,j<n/\y=l[j]:=by let⟨j,hj,e⟩:=ϖ.mp (List.mem_reverse.mp h);rw[List.getElem_take]at e;rw[length_take]at hj;exact⟨j,by lia,by lia,e.symm⟩
def zhq{y:Keyed}(h:y∈(l.take n).drop m):∃j,∃hj:j<l.length,m<=j/\j<n/\y=l[j]:=by let⟨j,hj,e⟩:=ϖ.mp h;rw[List.getElem_drop,List.getElem_take]at e;rw[List.length_drop,length_take]at hj;exact⟨m+j,by omega,by omega,by omega,e.symm⟩
def zde(a:Array Keyed)(n:Nat):(a.extract 0 n).toList=a.toList.take n:=by rw[Array.toList_extract,List.extract_eq_take_drop];rfl
def zfb(a:Array Keyed)(m n:Nat):(a.extract m n).toList=(a.toList.take n).drop m:=by rw[Array.toList_extract,List.extract_eq_take_drop,List.drop_take]
abbrev ng(rk:Keyed->Int)(x:Keyed):Int:=-rk x
def InOrd.rev(h:InOrd (ng rk) T l):InOrd rk T l.reverse:=⟨(List.reverse_perm _).trans h.1,List.pairwise_reverse.mpr (h.2.imp λ{x y} (q:-rk x<=-rk y)=>(by unfold Le;lia))⟩
end
section
variable{prog:Χ}{w:ϒ}{A:ϔ}{E:Ω->Ι->Prop}{s:Ι}{κ:SortKind}{rk:Keyed->Int}{T:List Keyed}{a b out:Array Keyed}{na nb:Nat}{st₀ st:SortSt}
noncomputable abbrev HiM(rk:Keyed->Int)(a b out:Array Keyed)(na nb:Nat):Prop:=MI (ng rk) (a.toList++b.toList) out.toList (a.toList.take na).reverse (b.toList.take nb).reverse
def HiM.done(m:HiM rk a b out na nb)(e:na=0\/nb=0):InOrd rk (a.toList++b.toList) (a.extract 0 na++b.extract 0 nb++out.reverse).toList:=by rw[ϕ,ϕ,zde,zde,Array.toList_reverse];rcases e with rfl|rfl;have:=(MI.fin m.swap).rev;simpa using this;have:=(MI.fin m).rev;simpa using this
def HiM.first(t:Two prog w A s κ rk T a b st₀)(m:HiM rk a b out na nb)(e:nb=1):InOrd rk (a.toList++b.toList) (b.extract 0 nb++a.extract 0 na++out.reverse).toList:=by
 rw[ϕ,ϕ,zde,zde,Array.toList_reverse];have:=(MI.last m.swap λu hu y hy=>by
  let⟨i,hi,h1,rfl⟩:=zbl hu;let⟨j,hj,h2,rfl⟩:=zbl hy;have:j=0:=by lia
  subst this;have:=t.h1 i (by simpa using hi);simp![ng,ϡ];lia).rev
 simpa using this
def HiM.pa(m:HiM rk a b out na nb)(h0:0<na)(ha:na-1<a.size)(h:∀j (hj:j<b.size),j<nb->rk b[j]<=rk a[na-1]):HiM rk a b (out.push a[na-1]) (na-1) nb:=by rw[HiM,Array.toList_push];refine MI.oneR (l:=a.toList) m h0 (by simpa using ha) λy hy=>?_;let⟨j,hj,h1,rfl⟩:=zbl hy;have:=h j (by simpa using hj) h1;simp![ng,ϡ];omega
def HiM.pb(m:HiM rk a b out na nb)(h0:0<nb)(hb:nb-1<b.size)(h:∀j (hj:j<a.size),j<na->rk a[j]<=rk b[nb-1]):HiM rk a b (out.push b[nb-1]) na (nb-1):=by rw[HiM,Array.toList_push];refine(MI.oneR (l:=b.toList) m.swap h0 (by simpa using hb) λy hy=>?_).swap;let⟨j,hj,h1,rfl⟩:=zbl hy;have:=h j (by simpa using hj) h1;simp![ng,ϡ];omega
def HiM.qa(m:HiM rk a b out na nb){k:Nat}(hk:k<=na)(h:∀i (hi:i<a.size) j (hj:j<b.size),k<=i->i<na->j<nb->rk b[j]<=rk a[i]):HiM rk a b (out++(a.extract k na).reverse) k nb:=by rw[HiM,ϕ,Array.toList_reverse,zfb];refine MI.segR (l:=a.toList) m hk λu hu y hy=>?_;let⟨j,hj,h1,rfl⟩:=zbl hy;let⟨i,hi,h2,h3,rfl⟩:=zhq hu;have:=h i (by simpa using hi) j (by simpa using hj) h2 h3 h1;simp![ng,ϡ];lia
def HiM.qb(m:HiM rk a b out na nb){k:Nat}(hk:k<=nb)(h:∀i (hi:i<b.size) j (hj:j<a.size),k<=i->i<nb->j<na->rk a[j]<=rk b[i]):HiM rk a b (out++(b.extract k nb).reverse) na k:=by rw[HiM,ϕ,Array.toList_reverse,zfb];refine(MI.segR (l:=b.toList) m.swap hk λu hu y hy=>?_).swap;let⟨j,hj,h1,rfl⟩:=zbl hy;let⟨i,hi,h2,h3,rfl⟩:=zhq hu;have:=h i (by simpa using hi) j (by simpa using hj) h2 h3 h1;simp![ng,ϡ];lia
structure HiI(rk:Keyed->Int)(a b:Array Keyed)(k:Nat)(out:Array Keyed)(na nb:Nat):Prop where
 m:HiM rk a b out na nb
 i:0<na
 i':na<=a.size
 j:1<nb
 j':nb<=b.size
 k:k+na+nb<a.size+b.size
def HiI.up{k l:Nat}(h:HiI rk a b l out na nb)(e:k<=l):HiI rk a b k out na nb:=⟨h.m,h.i,h.i',h.j,h.j',by have:=h.k;lia⟩
def zqV{k g x y:Nat}(t:Two prog w A s κ rk T a b st₀)(h:HiI rk a b k out na nb)(hs:SG st₀ st):wpS (model prog w) A E s (hiL a b g out na nb x y) (Tn st₀ (λr=>InOrd rk (a.toList++b.toList) r.toList) λd=>HiI rk a b (k+1) d.2.2.1 d.1 d.2.1) st:=by
 let⟨m0,hi,hi',hj,hj',hk⟩:=h;have ha:na-1<a.size:=by lia
 have hb:nb-1<b.size:=by lia
 unfold hiL;refine Ο (zau hb (Ο (zau ha (Ο (zjJ t.hc (t.tb _ _) (t.ta _ _) (t.kind hs) ?_)))));dsimp only;by_cases c:rk b[nb-1]<rk a[na-1];rw[decide_eq_true c,if_pos rfl];have m:=m0.pa hi ha λj hj h=>by have:=t.lb hb (show j<=nb-1 by lia);lia
 refine Ο (zau ha ?_);by_cases e:na-1=0;rw[if_pos (by simpa using e)];exact Τ ⟨hs,m.done (.inl e)⟩
 . rw[if_neg (by simpa using e)];have n:HiI rk a b (k+1) _ _ _:=⟨m,by lia,by lia,hj,hj',by lia⟩;split<;>exact Τ ⟨hs,n⟩
 rw[decide_eq_false c,if_neg Ε];have m:=m0.pb (by lia) hb λj hj h=>by have:=t.la ha (show j<=na-1 by lia);lia
 refine Ο (zau hb ?_);by_cases e:nb-1=1;rw[if_pos (by simpa using e)];exact Τ ⟨hs,m.first t e⟩
 . rw[if_neg (by simpa using e)];have n:HiI rk a b (k+1) _ _ _:=⟨m,hi,hi',by lia,by lia,by lia⟩;split<;>exact Τ ⟨hs,n⟩
def zmB{k g x y:Nat}(t:Two prog w A s κ rk T a b st₀)(h:HiI rk a b k out na nb)(hc:∀j (hj:j<b.size),j<nb->rk b[j]<=rk (a[na-1]'(by have:=h.i;have:=h.i';lia)))(hs:SG st₀ st):wpS (model prog w) A E s (hiC a b out na nb g x y) (Tn st₀ (λr=>InOrd rk (a.toList++b.toList) r.toList) λd=>HiI rk a b (k+1) d.2.2.1 d.1 d.2.1) st:=by
 let⟨m0,hi,hi',hj,hj',hk⟩:=h;have ha:na-1<a.size:=by lia
 unfold hiC;have m:=m0.pa hi ha hc;refine Ο (zau ha ?_);by_cases e:na-1=0;rw[if_pos (by simpa using e)];exact Τ ⟨hs,m.done (.inl e)⟩
 . rw[if_neg (by simpa using e)];have n:HiI rk a b (k+1) _ _ _:=⟨m,by lia,by lia,hj,hj',by lia⟩;split<;>exact Τ ⟨hs,n⟩
def zmC{k g x y:Nat}(t:Two prog w A s κ rk T a b st₀)(h:HiI rk a b k out na nb)(hc:∀j (hj:j<a.size),j<na->rk a[j]<=rk (b[nb-1]'(by have:=h.j;have:=h.j';lia)))(hs:SG st₀ st):wpS (model prog w) A E s (hiB a b out na nb g x y) (Tn st₀ (λr=>InOrd rk (a.toList++b.toList) r.toList) λd=>HiI rk a b (k+1) d.2.2.1 d.1 d.2.1) st:=by
 let⟨m0,hi,hi',hj,hj',hk⟩:=h;have ha:na-1<a.size:=by lia
 have hb:nb-1<b.size:=by lia
 unfold hiB;have m:=m0.pb (by lia) hb hc;refine Ο (zau hb ?_);by_cases e:nb-1=1;rw[if_pos (by simpa using e)];exact Τ ⟨hs,m.first t e⟩;rw[if_neg (by simpa using e)];refine Ο (zau ha (Ο (zbn (T:=T) (λi=>decide (∃h:i<b.size,rk b[i]<rk a[na-1])) t.hc (t.kind hs) (t.ta _ _) t.tb (by lia) (by lia) (λi h _=>?_) (λi j hij hj q=>?_) λm' c=>?_)));simp![zero_add]at h⊢;simp[h];have q:=of_decide_eq_true q;let⟨q1,q2⟩:=q;refine decide_eq_true ⟨by lia,?_⟩;have:=t.lb q1 hij;lia;dsimp only;have le:=c.le;have yes:∀i (h:i<b.size),i<m'->rk b[i]<rk a[na-1]:=λi _ hi=>(of_decide_eq_true (c.yes i hi)).2;have no:∀j (hj:j<b.size),m'<=j->j<nb-1->rk a[na-1]<=rk b[j]:=λj hj q q'=>by have:=of_decide_eq_false (c.no j q q');exact Int.not_lt.mp λz=>this ⟨hj,z⟩
 by_cases c0:nb-1-m'>0;rw[if_pos c0];have m2:=m.qb le λi h1 j h2 h3 h4 h5=>by have:=no i h1 h3 h4;have:=t.la ha (show j<=na-1 by lia);lia
 by_cases e2:m'=1;rw[if_pos (by simpa using e2)];exact Τ ⟨hs,m2.first t e2⟩;rw[if_neg (by simpa using e2)];by_cases e3:m'=0;rw[if_pos (by simpa using e3)];exact Τ ⟨hs,m2.done (.inr e3)⟩;rw[if_neg (by simpa using e3)];exact zmB t ⟨m2,hi,hi',by lia,by lia,by lia⟩ (λj hj q=>Int.le_of_lt (yes j hj q)) hs;rw[if_neg c0];have:m'=nb-1:=by lia
 subst this;exact zmB t ⟨m,hi,hi',by lia,by lia,by lia⟩ (λj hj q=>Int.le_of_lt (yes j hj q)) hs
def zqW{k g x y:Nat}(t:Two prog w A s κ rk T a b st₀)(h:HiI rk a b k out na nb)(hs:SG st₀ st):wpS (model prog w) A E s (hiA a b out na nb g x y) (Tn st₀ (λr=>InOrd rk (a.toList++b.toList) r.toList) λd=>HiI rk a b (k+1) d.2.2.1 d.1 d.2.1) st:=by
 let⟨m0,hi,hi',hj,hj',hk⟩:=id h;have ha:na-1<a.size:=by lia
 have hb:nb-1<b.size:=by lia
 unfold hiA;refine Ο (wpS_modify ?_);replace hs:=hs.set g;refine Ο (zau hb (Ο (zbn (T:=T) (λi=>decide (∃h:i<a.size,rk a[i]<=rk b[nb-1])) t.hc (t.kind hs) (t.tb _ _) t.ta (by lia) (by lia) (λi h _=>?_) (λi j hij hj q=>?_) λm' c=>?_)));simp![zero_add]at h⊢;simp[h,zj0];have q:=of_decide_eq_true q;let⟨q1,q2⟩:=q;refine decide_eq_true ⟨by lia,?_⟩;have:=t.la q1 hij;lia;dsimp only;have le:=c.le;have yes:∀i (h:i<a.size),i<m'->rk a[i]<=rk b[nb-1]:=λi _ hi=>(of_decide_eq_true (c.yes i hi)).2;have no:∀j (hj:j<a.size),m'<=j->j<na->rk b[nb-1]<=rk a[j]:=λj hj q q'=>by have:=of_decide_eq_false (c.no j q q');exact Int.le_of_lt (Int.not_le.mp λz=>this ⟨hj,z⟩)
 by_cases c0:na-m'>0;rw[if_pos c0];have m2:=m0.qa le λi h1 j h2 h3 h4 h5=>by have:=no i h1 h3 h4;have:=t.lb hb (show j<=nb-1 by lia);lia
 by_cases e2:m'=0;rw[if_pos (by simpa using e2)];exact Τ ⟨hs,m2.done (.inl e2)⟩;rw[if_neg (by simpa using e2)];exact zmC t ⟨m2,by lia,by lia,hj,hj',by lia⟩ yes hs;rw[if_neg c0];have:m'=na:=by lia
 subst this;exact zmC t h yes hs
def zih{Q:Array Keyed->SortSt->Prop}(t:Two prog w A s κ rk T a b st₀)(h:∀r st,SG st₀ st->InOrd rk (a.toList++b.toList) r.toList->Q r st):wpS (model prog w) A E s (zdd a b) Q st₀:=by
 rw[zii];have nb:=t.nb;have na:=t.na;have hl:a.size-1<a.size:=by lia
 have m:HiM rk a b #[a[a.size-1]] (a.size-1) b.size:=by have:=HiM.pa (rk:=rk) (a:=a) (b:=b) (out:=#[]) (na:=a.size) (nb:=b.size) ⟨?_,.nil,?_,?_,by simp⟩ na hl λj hj _=>Int.le_of_lt (t.h2 j hj);simpa using this;rw[List.take_of_length_le (by simp),List.take_of_length_le (by simp)];exact List.Perm.append (l₁:=a.toList.reverse) (List.reverse_perm _) (List.reverse_perm _);rw[List.take_of_length_le (by simp)];exact List.pairwise_reverse.mpr (t.sa.imp λ{x y} (q:rk x<=rk y)=>(by unfold Le ng;lia));rw[List.take_of_length_le (by simp)];exact List.pairwise_reverse.mpr (t.sb.imp λ{x y} (q:rk x<=rk y)=>(by unfold Le ng;lia))
 refine Ο (wpS_lift (Ϭ ⟨rfl,Ο (zau hl ?_)⟩));by_cases e:a.size-1=0;rw[if_pos (by simpa using e)];exact Τ (h _ _ ⟨_,rfl⟩ (m.done (.inl e)));rw[if_neg (by simpa using e)];by_cases e2:b.size=1;rw[if_pos (by simpa using e2)];exact Τ (h _ _ ⟨_,rfl⟩ (m.first t e2))
 . rw[if_neg (by simpa using e2)];refine zqs (st₀:=st₀) (Go:=λr=>InOrd rk (a.toList++b.toList) r.toList) (λk d=>HiI rk a b k d.2.2.1 d.1 d.2.1) (λk d=>HiI rk a b k d.2.2.1 d.1 d.2.1) (λk d=>HiI rk a b k d.2.2.1 d.1 d.2.1)
    (λ_ _ _ q z=>z.up q) (λ_ _ _ q z=>z.up q) (λ_ _ z=>z) (λ_ _ _ z=>z) (λ_ _ z=>z) (λk c z=>by have:=z.k;lia)
    (λc i d st hs z=>zqV t z hs) (λi d st hs z=>?_) (λg=>(⟨m,by lia,by lia,by lia,by lia,by lia⟩:HiI rk a b 0 #[a[a.size-1]] (a.size-1) b.size)) h
   split<;>exact zqW t z hs
end
abbrev Kr(rk:Keyed->Int)(xs:Array Keyed)(i:Nat):Int:=(xs[i]?.map rk).getD 0
def Kr_at{rk:Keyed->Int}{xs:Array Keyed}{i:Nat}(h:i<xs.size):Kr rk xs i=rk xs[i]:=by unfold Kr;rw[getElem?_pos xs i h];rfl
def zcN{rk:Keyed->Int}{xs ys:Array Keyed}{i j:Nat}(h:xs[i]?=ys[j]?):Kr rk xs i=Kr rk ys j:=by unfold Kr;rw[h]
abbrev So(rk:Keyed->Int)(xs:Array Keyed)(lo hi:Nat):Prop:=∀i j,lo<=i->i<j->j<hi->Kr rk xs i<Kr rk xs j
structure SB(κ:SortKind)(T:List Keyed)(st:SortSt):Prop where
 perm:(arrOf st).toList.Perm T
 kind:kindOf st=κ
 failed:failedOf st=Ψ
section
variable{prog:Χ}{w:ϒ}{A:ϔ}{E:Ω->Ι->Prop}{s:Ι}{κ:SortKind}{rk:Keyed->Int}{T:List Keyed}{st:SortSt}
def SB.size(b:SB κ T st):(arrOf st).size=T.length:=by have:=b.perm.length_eq;simpa using this
def SB.mem(b:SB κ T st){i:Nat}(h:i<(arrOf st).size):(arrOf st)[i]∈T:=b.perm.mem_iff.mp (by simp)
def SB.inj(b:SB κ T st)(u:(T.map rk).Nodup){i j:Nat}(hi:i<T.length)(hj:j<T.length)(ne:i≠j):Kr rk (arrOf st) i≠Kr rk (arrOf st) j:=by
 have hi':i<(arrOf st).size:=by rw[b.size];exact hi
 have hj':j<(arrOf st).size:=by rw[b.size];exact hj
 rw[Kr_at hi',Kr_at hj'];have nd:((arrOf st).toList.map rk).Nodup:=((b.perm.map rk).nodup_iff).mpr u;intro e;apply ne;have h1:i<((arrOf st).toList.map rk).length:=by simpa using hi'
 have h2:j<((arrOf st).toList.map rk).length:=by simpa using hj'
 exact(List.getElem_inj (h₀:=h1) (h₁:=h2) nd).mp (by simpa using e)
def SB.arr(b:SB κ T st){xs:Array Keyed}(h:xs.toList.Perm (arrOf st).toList):SB κ T (setArr st xs):=⟨h.trans b.perm,b.kind,b.failed⟩
def zcS{i j:Nat}{Q:Option Bool->SortSt->Prop}(hc:Looks prog w A s κ rk T)(b:SB κ T st)(hi:i<T.length)(hj:j<T.length)(h:Q (Φ (decide (Kr rk (arrOf st) i<Kr rk (arrOf st) j))) st):wpS (model prog w) A E s (ltAt' i j) Q st:=by
 have hi':i<(arrOf st).size:=by rw[b.size];exact hi
 have hj':j<(arrOf st).size:=by rw[b.size];exact hj
 rw[ltAt'_eq];refine Ο (wpS_get (Ο (zau hi' (Ο (zau hj' (zjJ hc (b.mem _) (b.mem _) b.kind ?_))))));rw[Kr_at hi',Kr_at hj']at h;exact h
def So.snoc{xs:Array Keyed}{lo n:Nat}(h:So rk xs lo (lo+n))(h1:1<=n)(c:Kr rk xs (lo+n-1)<Kr rk xs (lo+n)):So rk xs lo (lo+(n+1)):=by
 intro i j hi hij hj;by_cases e:j<lo+n;exact h i j hi hij e;have:j=lo+n:=by lia
 subst this;by_cases e':i=lo+n-1;subst e';exact c;have:=h i (lo+n-1) hi (by lia) (by lia);lia
abbrev Fa(rk:Keyed->Int)(xs:Array Keyed)(lo hi:Nat):Prop:=∀i j,lo<=i->i<j->j<hi->Kr rk xs j<Kr rk xs i
def Fa.snoc{xs:Array Keyed}{lo n:Nat}(h:Fa rk xs lo (lo+n))(h1:1<=n)(c:Kr rk xs (lo+n)<Kr rk xs (lo+n-1)):Fa rk xs lo (lo+(n+1)):=by
 intro i j hi hij hj;by_cases e:j<lo+n;exact h i j hi hij e;have:j=lo+n:=by lia
 subst this;by_cases e':i=lo+n-1;subst e';exact c;have:=h i (lo+n-1) hi (by lia) (by lia);lia
abbrev Bl(lo:Nat)(xs ys:Array Keyed):Prop:=∀i,i<lo->ys[i]?=xs[i]?
def zlX{lo nrem:Nat}{Q:Option Nat->SortSt->Prop}(hc:Looks prog w A s κ rk T)(u:(T.map rk).Nodup)(b:SB κ T st)(h1:1<=nrem)(hn:lo+nrem=T.length)
  (h:∀m st',SB κ T st'->pendingOf st'=pendingOf st->Bl lo (arrOf st) (arrOf st')->1<=m->m<=nrem->So rk (arrOf st') lo (lo+m)->Q (Φ m) st'):wpS (model prog w) A E s (countRun' lo nrem) Q st:=by
 rw[countRun'_eq];dsimp only;refine Ο (ϫ (ϧ (I:=λx c st'=>st'=st/\c=(Ψ,x)/\So rk (arrOf st) lo (lo+x)) (Q:=λc st'=>st'=st/\∃n,c=(Ψ,n)/\1<=n/\n<=nrem/\So rk (arrOf st) lo (lo+n)/\(n=nrem\/Kr rk (arrOf st) (lo+n)<Kr rk (arrOf st) (lo+n-1))) ?_ ?_ ⟨rfl,rfl,λi j _ _ _=>by lia⟩) ?_);rintro x c st' hx hxn ⟨rfl,rfl,so⟩;dsimp only;refine Ο (zcS hc b (by lia) (by lia) ?_);dsimp only;by_cases c:Kr rk (arrOf st') (lo+x)<Kr rk (arrOf st') (lo+x-1);rw[decide_eq_true c,if_pos rfl];exact Τ ⟨rfl,x,rfl,hx,by lia,so,.inr c⟩;rw[decide_eq_false c,if_neg Ε];refine Τ ⟨rfl,rfl,so.snoc hx ?_⟩;have:=b.inj u (i:=lo+x) (j:=lo+x-1) (by lia) (by lia) (by lia);lia;rintro c st' ⟨rfl,rfl,so⟩;rw[show max 1 nrem=nrem by lia]at so⊢;exact⟨rfl,nrem,rfl,h1,le_refl _,so,.inl rfl⟩;rintro c st' ⟨rfl,n,rfl,n1,n2,so,n3⟩;dsimp only;by_cases e:n=nrem;rw[if_pos (by simpa using e)];exact Τ (h n st' b rfl (λ_ _=>rfl) n1 n2 so);rw[if_neg (by simpa using e)];have n3:=n3.resolve_left e;by_cases e1:n>1;rw[if_pos e1];refine Ο (zcS hc b (by lia) (by lia) ?_);dsimp only;rw[decide_eq_true (so lo (lo+n-1) (le_refl _) (by lia) (by lia)),if_pos rfl];exact Τ (h n st' b rfl (λ_ _=>rfl) n1 n2 so);rw[if_neg e1];have:n=1:=by lia
 subst this;refine Ο (wpS_lift (Ϭ ⟨rfl,?_⟩));refine Ο (ϫ (ϧ (I:=λx c st=>st=st'/\c=(Ψ,x,0)/\Fa rk (arrOf st') lo (lo+x)) (Q:=λc st=>st=st'/\∃n,c=(Ψ,n,0)/\1<=n/\n<=nrem/\Fa rk (arrOf st') lo (lo+n)) ?_ ?_ ⟨rfl,rfl,Fa.snoc (n:=1) (λi j _ _ _=>by lia) (le_refl _) n3⟩) ?_);rintro x c st hx hxn ⟨rfl,rfl,fa⟩;dsimp only;refine Ο (zcS hc b (by lia) (by lia) ?_);dsimp only;by_cases c:Kr rk (arrOf st) (lo+x)<Kr rk (arrOf st) (lo+x-1);rw[decide_eq_true c,if_pos rfl,if_neg (by lia)];exact Τ ⟨rfl,rfl,fa.snoc (by lia) c⟩;rw[decide_eq_false c,if_neg Ε];refine Ο (zcS hc b (by lia) (by lia) ?_);have:=b.inj u (i:=lo+x) (j:=lo+x-1) (by lia) (by lia) (by lia);dsimp only;rw[decide_eq_true (by lia),if_pos rfl];exact Τ ⟨rfl,x,rfl,by lia,by lia,fa⟩;rintro c st ⟨rfl,rfl,fa⟩;rw[show max (1+1) nrem=nrem by lia]at fa⊢;exact⟨rfl,nrem,rfl,by lia,le_refl _,fa⟩;rintro c st ⟨rfl,n,rfl,n1,n2,fa⟩;dsimp only;rw[if_neg (by lia)];refine Ο (wpS_reverse ?_);have bs:lo+n<=(arrOf st).size:=by rw[b.size];lia
 have pm:=mirror_perm (arrOf st) lo (lo+n) ((lo+n-lo)/2);have gm:=getElem?_mirror_all (i:=lo) bs;generalize mirror (arrOf st) lo (lo+n) ((lo+n-lo)/2)=xs at pm gm⊢;have mi:∀k,Kr rk xs k=if lo<=k/\k<lo+n then Kr rk (arrOf st) (lo+(lo+n)-1-k) else Kr rk (arrOf st) k:=λk=>by have e:=gm k;by_cases z:lo<=k/\k<lo+n;rw[if_pos z]at e⊢;exact zcN e;rw[if_neg z]at e⊢;exact zcN e
 have b2:SB κ T (setArr st xs):=b.arr (Array.perm_iff_toList_perm.mp pm);have so2:So rk xs lo (lo+n):=λi j h1 h2 h3=>by rw[mi,mi,if_pos ⟨h1,by lia⟩,if_pos ⟨by lia,h3⟩];exact fa _ _ (by lia) (by lia) (by lia)
 have bl:Bl lo (arrOf st) xs:=λi hi=>by rw[gm,if_neg (by lia)]
 refine Ο (ϫ (ϧ (I:=λx c st2=>st2=setArr st xs/\c=(Ψ,x)/\So rk xs lo (lo+x)) (Q:=λc st2=>st2=setArr st xs/\∃n',c=(Ψ,n')/\1<=n'/\n'<=nrem/\So rk xs lo (lo+n')) ?_ ?_ ⟨rfl,rfl,so2⟩) ?_);rintro x c st2 hx hxn ⟨rfl,rfl,so⟩;dsimp only;refine Ο (zcS hc b2 (by lia) (by lia) ?_);dsimp only;by_cases c:Kr rk xs (lo+x)<Kr rk xs (lo+x-1);rw[decide_eq_true c,if_pos rfl];exact Τ ⟨rfl,x,rfl,by lia,by lia,so⟩;rw[decide_eq_false c,if_neg Ε];refine Τ ⟨rfl,rfl,so.snoc (by lia) ?_⟩;have:Kr rk xs (lo+x)≠Kr rk xs (lo+x-1):=b2.inj u (i:=lo+x) (j:=lo+x-1) (by lia) (by lia) (by lia);lia;rintro c st2 ⟨rfl,rfl,so⟩;rw[show max n nrem=nrem by lia]at so⊢;exact⟨rfl,nrem,rfl,h1,le_refl _,so⟩;rintro c st2 ⟨rfl,m,rfl,m1,m2,so⟩;exact Τ (h m _ b2 rfl bl m1 m2 so)
def zkH{lo n ok:Nat}{Q:Bool->SortSt->Prop}(hc:Looks prog w A s κ rk T)(u:(T.map rk).Nodup)(b:SB κ T st)(h1:1<=ok)(h2:ok<=n)(hn:lo+n<=T.length)(so:So rk (arrOf st) lo (lo+ok))
  (h:∀st',SB κ T st'->pendingOf st'=pendingOf st->Bl lo (arrOf st) (arrOf st')->So rk (arrOf st') lo (lo+n)->Q Δ st'):wpS (model prog w) A E s (binarySort' lo n ok) Q st:=by
 rw[binarySort'_eq];refine Ο (ϫ (ϧ (I:=λk c st'=>c=(Ψ,())/\SB κ T st'/\pendingOf st'=pendingOf st/\Bl lo (arrOf st) (arrOf st')/\So rk (arrOf st') lo (lo+k))
  (Q:=λc st'=>c=(Ψ,())/\SB κ T st'/\pendingOf st'=pendingOf st/\Bl lo (arrOf st) (arrOf st')/\So rk (arrOf st') lo (lo+n)) ?_ ?_ ⟨rfl,b,rfl,λ_ _=>rfl,by rw[Nat.max_eq_left h1];exact so⟩) ?_)
 rintro k c st' hk hkn ⟨rfl,b',pe,bl,so'⟩;have hk1:1<=k:=by lia
 refine Ο (ϫ (ϧ (I:=λx c st''=>st''=st'/\∃l r,c=(Ψ,l,r)/\l<=r/\r<=k/\r-l<=k-x/\(∀i,i<l->Kr rk (arrOf st') (lo+i)<Kr rk (arrOf st') (lo+k))/\(∀i,r<=i->i<k->Kr rk (arrOf st') (lo+k)<Kr rk (arrOf st') (lo+i)))
  (Q:=λc st''=>st''=st'/\∃l r,c=(Ψ,l,r)/\l<=k/\(∀i,i<l->Kr rk (arrOf st') (lo+i)<Kr rk (arrOf st') (lo+k))/\(∀i,l<=i->i<k->Kr rk (arrOf st') (lo+k)<Kr rk (arrOf st') (lo+i))) ?_ ?_ ⟨rfl,0,k,rfl,by lia,by lia,by lia,λi hi=>by lia,λi h1 h2=>by lia⟩) ?_)
 rintro x c st'' _ hx ⟨rfl,l,r,rfl,a1,a2,a3,a4,a5⟩;dsimp only;by_cases z:l≥r;rw[if_pos z];obtain rfl:l=r:=by lia
 exact Τ ⟨rfl,l,l,rfl,a2,a4,a5⟩;rw[if_neg z];refine Ο (zcS hc b' (by lia) (by lia) ?_);dsimp only;by_cases c:Kr rk (arrOf st'') (lo+k)<Kr rk (arrOf st'') (lo+(l+r)/2);rw[decide_eq_true c,if_pos rfl];refine Τ ⟨rfl,l,_,rfl,by lia,by lia,by lia,a4,λi q1 q2=>?_⟩;by_cases e:(l+r)/2=i;subst e;exact c;have:=so' (lo+(l+r)/2) (lo+i) (by lia) (by lia) (by lia);lia;rw[decide_eq_false c,if_neg Ε];refine Τ ⟨rfl,_,r,rfl,by lia,by lia,by lia,λi q1=>?_,a5⟩;have:=b'.inj u (i:=lo+k) (j:=lo+(l+r)/2) (by lia) (by lia) (by lia);by_cases e:i=(l+r)/2;subst e;lia;have:=so' (lo+i) (lo+(l+r)/2) (by lia) (by lia) (by lia);lia;rintro c st'' ⟨rfl,l,r,rfl,a1,a2,a3,a4,a5⟩;obtain rfl:l=r:=by lia
 exact⟨rfl,l,l,rfl,a2,a4,a5⟩;rintro c st'' ⟨rfl,l,r,rfl,lk,a4,a5⟩;show wpS _ _ _ _ (do moveDown' (lo+k) (lo+l);pure (ForInStep.yield (Ψ,()))) _ _;rw[moveDown'_eq];have hks:lo+k<(arrOf st'').size:=by rw[b'.size];lia
 have g:=getElem?_bubble hks (lo+k-(lo+l)) (by lia);have pm:=bubble_perm (arrOf st'') (lo+k) (lo+k-(lo+l));refine Ο (wpS_modify (Τ ⟨rfl,b'.arr (Array.perm_iff_toList_perm.mp pm),pe,λi hi=>?_,λi j q1 q2 q3=>?_⟩));show(bubble (arrOf st'') (lo+k) (lo+k-(lo+l)))[i]?=_;rw[g,if_neg (by lia),if_neg (by lia)];exact bl i hi
 . show Kr rk (bubble (arrOf st'') (lo+k) (lo+k-(lo+l))) i<Kr rk (bubble (arrOf st'') (lo+k) (lo+k-(lo+l))) j;have gk:∀t,Kr rk (bubble (arrOf st'') (lo+k) (lo+k-(lo+l))) t=if t=lo+l then Kr rk (arrOf st'') (lo+k) else if lo+l<t/\t<=lo+k then Kr rk (arrOf st'') (t-1) else Kr rk (arrOf st'') t:=λt=>by
    have e:=g t;rw[show lo+k-(lo+k-(lo+l))=lo+l by lia]at e;unfold Kr;rw[e]
    repeat' split
    all_goals rfl
   have a4':∀t,lo<=t->t<lo+l->Kr rk (arrOf st'') t<Kr rk (arrOf st'') (lo+k):=λt y1 y2=>by have:=a4 (t-lo) (by lia);rwa [show lo+(t-lo)=t by lia]at this
   have a5':∀t,lo+l<=t->t<lo+k->Kr rk (arrOf st'') (lo+k)<Kr rk (arrOf st'') t:=λt y1 y2=>by have:=a5 (t-lo) (by lia) (by lia);rwa [show lo+(t-lo)=t by lia]at this
   rw[gk,gk]
   repeat' split
   all_goals first
    |(exfalso;lia)
    |exact a4' _ (by lia) (by lia)
    |exact a5' _ (by lia) (by lia)
    |exact so' _ _ (by lia) (by lia) (by lia)
 rintro c st' ⟨hc,b',pe,bl,so'⟩;rw[show max (max ok 1) n=n by lia]at so';exact⟨hc,b',pe,bl,so'⟩;rintro c st' ⟨rfl,b',pe,bl,so'⟩;exact Τ (h st' b' pe bl so')
def zhC(c:Nat):∀(l:List Keyed)(n:Nat)(xs:Array Keyed),c+n+l.length<=xs.size->∀i:Nat,((l.zipIdx n).foldl (λa (p:Keyed×Nat)=>a.setIfInBounds (c+p.2) p.1) xs)[i]?=if c+n<=i/\i<c+n+l.length then l[i-(c+n)]? else xs[i]?
 | [],n,xs,h,i=>by rw[if_neg (by simp)];rfl| x::l,n,xs,h,i=>by
  have h':c+(n+1)+l.length<=(xs.setIfInBounds (c+n) x).size:=by rw[Array.size_setIfInBounds];simp at h;lia
  have:=zhC c l (n+1) (xs.setIfInBounds (c+n) x) h' i;rw[List.zipIdx_cons,List.foldl_cons,this];simp![length_cons]at h⊢;by_cases e:i=c+n;subst e;rw[if_neg (by lia),if_pos (by lia),Array.getElem?_setIfInBounds_self_of_lt (by lia),Nat.sub_self];rfl;rw[Array.getElem?_setIfInBounds_ne (by lia)];by_cases z:c+n<=i/\i<c+n+(l.length+1);rw[if_pos z,if_pos (by lia),show i-(c+n)=(i-(c+(n+1)))+1 by lia];rfl;rw[if_neg z,if_neg (by lia)]
def zfl{xs:Array Keyed}{i:Nat}{x:Keyed}(h:xs[i]?=Φ x):Kr rk xs i=rk x:=by unfold Kr;rw[h];rfl
def So.of(b:SB κ T st)(u:(T.map rk).Nodup){lo hi:Nat}(hh:hi<=T.length)(h:∀i j,lo<=i->i<j->j<hi->Kr rk (arrOf st) i<=Kr rk (arrOf st) j):So rk (arrOf st) lo hi:=λi j h1 h2 h3=>by have:=h i j h1 h2 h3;have:=b.inj u (i:=i) (j:=j) (by lia) (by lia) (by lia);lia
def zj2{xs ys:Array Keyed}{r:List Keyed}{p q:Nat}(hp:p<=q)(hq:q<=xs.size)(hr:r.Perm (xs.extract p q).toList)(h:∀i:Nat,ys[i]?=if p<=i/\i<q then r[i-p]? else xs[i]?):ys.toList.Perm xs.toList:=by
 have rl:r.length=q-p:=by have:=hr.length_eq;simp at this;lia
 have e:ys.toList=xs.toList.take p++(r++xs.toList.drop q):=by
  apply ext_getElem?;intro i;rw[ϋ,h i];by_cases z:i<p;rw[if_neg (by lia),getElem?_append_left (by simp;lia),List.getElem?_take,if_pos z,ϋ];rw[getElem?_append_right (by simp;lia)];have l1:(xs.toList.take p).length=p:=by simp;lia
  rw[l1];by_cases z2:i<q;rw[if_pos ⟨by lia,z2⟩,getElem?_append_left (by lia)];rw[if_neg (by lia),getElem?_append_right (by lia),List.getElem?_drop,rl,ϋ];congr 1;lia
 have e2:xs.toList=xs.toList.take p++((xs.extract p q).toList++xs.toList.drop q):=by
  rw[zfb];have e3:xs.toList.take q=xs.toList.take p++(xs.toList.take q).drop p:=by have:=List.take_append_drop p (xs.toList.take q);rw[List.take_take,Nat.min_eq_left hp]at this;exact this.symm
  rw[<-append_assoc,<-e3,List.take_append_drop]
 rw[e];exact(List.Perm.append_left _ (List.Perm.append_right _ hr)).trans (List.Perm.of_eq e2.symm)
structure Run2(κ:SortKind)(rk:Keyed->Int)(T:List Keyed)(xs:Array Keyed)(sa na nb:Nat):Prop where
 a1:1<=na
 b1:1<=nb
 le:sa+na+nb<=T.length
 so1:So rk xs sa (sa+na)
 so2:So rk xs (sa+na) (sa+na+nb)
def SG.perm{st':SortSt}(h:SG st st'):arrOf st'=arrOf st/\kindOf st'=kindOf st/\failedOf st'=failedOf st/\pendingOf st'=pendingOf st:=by let⟨_,rfl⟩:=h;exact⟨rfl,rfl,rfl,rfl⟩
def So.le{xs:Array Keyed}{lo hi i j:Nat}(h:So rk xs lo hi)(h1:lo<=i)(h2:i<=j)(h3:j<hi):Kr rk xs i<=Kr rk xs j:=by by_cases e:i=j;subst e;exact Int.le_refl _;exact Int.le_of_lt (h i j h1 (by lia) h3)
def zdR{xs:Array Keyed}{p q i:Nat}(h:i<(xs.extract p q).size):rk (xs.extract p q)[i]=Kr rk xs (p+i):=by rw[Array.getElem_extract];exact(Kr_at _).symm
def zer{xs:Array Keyed}{lo hi p q:Nat}(h:So rk xs lo hi)(h1:lo<=p)(h2:q<=hi):(xs.extract p q).toList.Pairwise (Le rk):=by rw[List.pairwise_iff_getElem];intro i j hi hj hij;show rk _<=rk _;simp![ϡ];rw[zdR (rk:=rk),zdR (rk:=rk)];simp at hj;exact h.le (by lia) (by lia) (by lia)
def zij{i sa na nb pw z:Nat}{Q:Bool->SortSt->Prop}(hc:Looks prog w A s κ rk T)(u:(T.map rk).Nodup)(b:SB κ T st)(e1:(pendingOf st)[i]?=Φ (sa,na,pw))(e2:(pendingOf st)[i+1]?=Φ (sa+na,nb,z))(r:Run2 κ rk T (arrOf st) sa na nb)
  (h:∀st',SB κ T st'->pendingOf st'=((pendingOf st).setIfInBounds i (sa,na+nb,pw)).eraseIdxIfInBounds (i+1)->(∀j,j<sa\/sa+na+nb<=j->(arrOf st')[j]?=(arrOf st)[j]?)->So rk (arrOf st') sa (sa+na+nb)->Q Δ st'):wpS (model prog w) A E s (mergeAt' i) Q st:=by
 let⟨a1,b1,le,soa,sob⟩:=r;have sz:=b.size;have mem:∀i (h:i<(arrOf st).size),(arrOf st)[i]∈T:=λi h=>b.mem h;have hsb:sa+na<(arrOf st).size:=by lia
 rw[zgQ];refine Ο (wpS_get ?_);rw[e1,e2];dsimp only;refine Ο (wpS_modify (f:=λ_=>setPending st _) ?_);generalize ep:((pendingOf st).setIfInBounds i (sa,na+nb,pw)).eraseIdxIfInBounds (i+1)=pe at h⊢;have b1':SB κ T (setPending st pe):=⟨b.perm,b.kind,b.failed⟩;refine Ο (zau hsb (Ο (zbn (T:=T) (λi=>decide (Kr rk (arrOf st) (sa+i)<=Kr rk (arrOf st) (sa+na))) hc b1'.kind (mem _ _) mem (by lia) (by lia) (λi h _=>?_) (λi j hij hj q=>?_) λk c=>?_)));rw[Kr_at h,Kr_at hsb,zj0];rfl;exact decide_eq_true (Int.le_trans (soa.le (by lia) (by lia) (by lia)) (of_decide_eq_true q));dsimp only;have ck:=c.le;have yes:∀j,sa<=j->j<sa+k->Kr rk (arrOf st) j<=Kr rk (arrOf st) (sa+na):=λj q1 q2=>by
  have:=of_decide_eq_true (c.yes (j-sa) (by lia))
  rwa [show sa+(j-sa)=j by lia]at this
 have no:∀j,sa+k<=j->j<sa+na->Kr rk (arrOf st) (sa+na)<Kr rk (arrOf st) j:=λj q1 q2=>by have:=of_decide_eq_false (c.no (j-sa) (by lia) (by lia));rw[show sa+(j-sa)=j by lia]at this;lia
 by_cases k0:na-k=0;rw[if_pos (by simpa using k0)];refine Τ (h _ b1' rfl (λ_ _=>rfl) (So.of b1' u le λi j q1 q2 q3=>?_));show Kr rk (arrOf st) i<=Kr rk (arrOf st) j;by_cases z1:j<sa+na;exact soa.le q1 (by lia) z1;by_cases z2:i<sa+na;exact Int.le_trans (yes i q1 (by lia)) (sob.le (le_refl _) (by lia) q3);exact sob.le (by lia) (by lia) q3;rw[if_neg (by simpa using k0)];have el:sa+k+(na-k)-1=sa+na-1:=by lia
 have hl:sa+na-1<(arrOf st).size:=by lia
 rw[el];refine Ο (zau hl (Ο (zbn (T:=T) (λi=>decide (Kr rk (arrOf st) (sa+na+i)<Kr rk (arrOf st) (sa+na-1))) hc b1'.kind (mem _ _) mem (by lia) (by lia) (λi h _=>?_) (λi j hij hj q=>?_) λm d=>?_)));rw[Kr_at h,Kr_at hl];rfl;exact decide_eq_true (Int.lt_of_le_of_lt (sob.le (by lia) (by lia) (by lia)) (of_decide_eq_true q));dsimp only;have dm:=d.le;have yes2:∀j,sa+na<=j->j<sa+na+m->Kr rk (arrOf st) j<Kr rk (arrOf st) (sa+na-1):=λj q1 q2=>by
  have:=of_decide_eq_true (d.yes (j-(sa+na)) (by lia))
  rwa [show sa+na+(j-(sa+na))=j by lia]at this
 have no2:∀j,sa+na+m<=j->j<sa+na+nb->Kr rk (arrOf st) (sa+na-1)<=Kr rk (arrOf st) j:=λj q1 q2=>by have:=of_decide_eq_false (d.no (j-(sa+na)) (by lia) (by lia));rw[show sa+na+(j-(sa+na))=j by lia]at this;lia
 have m0:m≠0:=λe=>by have:=no2 (sa+na) (by lia) (by lia);have:=no (sa+na-1) (by lia) (by lia);lia
 rw[if_neg (by simpa using m0)];have xz:((arrOf st).extract (sa+k) (sa+na)).size=na-k:=by simp;lia
 have yz:((arrOf st).extract (sa+na) (sa+na+m)).size=m:=by simp;lia
 have tw:Two prog w A s κ rk T ((arrOf st).extract (sa+k) (sa+na)) ((arrOf st).extract (sa+na) (sa+na+m)) (setPending st pe):=
  ⟨hc,b1'.kind,λi h=>by rw[Array.getElem_extract];exact mem _ _,λi h=>by rw[Array.getElem_extract];exact mem _ _,zer soa (by lia) (le_refl _),zer sob (le_refl _) (by lia),by lia,by lia,
   λi h=>by rw[zdR (rk:=rk),zdR (rk:=rk)];exact no _ (by lia) (by lia),
   λi h=>by rw[zdR (rk:=rk),zdR (rk:=rk),xz,show sa+k+(na-k-1)=sa+na-1 by lia];exact yes2 _ (by lia) (by lia)⟩
 have fin:∀(r:Array Keyed)(st':SortSt),SG (setPending st pe) st'->InOrd rk (((arrOf st).extract (sa+k) (sa+na)).toList++((arrOf st).extract (sa+na) (sa+na+m)).toList) r.toList->wpS (model prog w) A E s (do
   modify λs=>setArr s (r.toList.zipIdx.foldl (λa (p,j)=>a.setIfInBounds (sa+k+j) p) (arrOf s))
   return (failedOf (<-get)).isNone) Q st':=λr st' g o=>by
  let⟨ga,gk,gf,gp⟩:=g.perm;have rl:r.toList.length=na-k+m:=by have:=o.1.length_eq;rw[length_append,length_toList,length_toList,length_toList,xz,yz]at this;simpa using this
  refine Ο (wpS_modify (Ο (wpS_get ?_)));have ex:((arrOf st).extract (sa+k) (sa+na)).toList++((arrOf st).extract (sa+na) (sa+na+m)).toList=((arrOf st).extract (sa+k) (sa+na+m)).toList:=by rw[<-ϕ,Array.extract_append_extract];congr 2<;>lia
  have gi:∀i:Nat,(r.toList.zipIdx.foldl (λa (p:Keyed×Nat)=>a.setIfInBounds (sa+k+p.2) p.1) (arrOf st))[i]?=if sa+k<=i/\i<sa+na+m then r.toList[i-(sa+k)]? else(arrOf st)[i]?:=λi=>by have:=zhC (sa+k) r.toList 0 (arrOf st) (by lia) i;rw[Nat.add_zero,rl,show sa+k+(na-k+m)=sa+na+m by lia]at this;exact this
  have b2:SB κ T (setArr st' (r.toList.zipIdx.foldl (λa (p:Keyed×Nat)=>a.setIfInBounds (sa+k+p.2) p.1) (arrOf st))):=⟨(zj2 (p:=sa+k) (q:=sa+na+m) (by lia) (by lia) (by rw[<-ex];exact o.1) gi).trans b.perm,gk.trans b.kind,gf.trans b.failed⟩;have mid:∀t,sa+k<=t->t<sa+na+m->∃x,(r.toList.zipIdx.foldl (λa (p:Keyed×Nat)=>a.setIfInBounds (sa+k+p.2) p.1) (arrOf st))[t]?=Φ x/\∃j,sa+k<=j/\j<sa+na+m/\rk x=Kr rk (arrOf st) j:=λt t1 t2=>by
   rw[gi,if_pos ⟨t1,t2⟩];have hl:t-(sa+k)<r.toList.length:=by lia
   refine⟨_,Η hl,?_⟩;have:=o.1.mem_iff.mp (Ϙ hl);rw[ex]at this;let⟨j,hj,e⟩:=ϖ.mp this;simp![length_toList]at hj;rw[ϡ]at e;refine⟨sa+k+j,by lia,?_,?_⟩;simp at hj;lia;rw[<-e,zdR (rk:=rk)]
  generalize ef:r.toList.zipIdx.foldl (λa (p:Keyed×Nat)=>a.setIfInBounds (sa+k+p.2) p.1) (arrOf st)=ys at gi b2 mid;have ef':r.toList.zipIdx.foldl (λa (p,j)=>a.setIfInBounds (sa+k+j) p) (arrOf st')=ys:=by rw[ga];exact ef
  rw[ef'];show wpS _ _ _ _ (pure (failedOf st').isNone) _ _;rw[gf.trans b.failed];refine Τ (h _ b2 gp (λj hj=>?_) (So.of b2 u le λi j q1 q2 q3=>?_));show ys[j]?=_;rw[gi,if_neg (by lia)];show Kr rk ys i<=Kr rk ys j;have out:∀t,t<sa+k\/sa+na+m<=t->Kr rk ys t=Kr rk (arrOf st) t:=λt ht=>zcN (by rw[gi,if_neg (by lia)]);have low:∀t v,sa<=t->t<sa+k->sa+k<=v->v<sa+na+nb->Kr rk (arrOf st) t<=Kr rk (arrOf st) v:=λt v y1 y2 y3 y4=>by by_cases z1:v<sa+na;exact soa.le y1 (by lia) z1;exact Int.le_trans (yes t y1 y2) (sob.le (le_refl _) (by lia) y4)
  have high:∀t v,sa<=t->t<sa+na+m->sa+na+m<=v->v<sa+na+nb->Kr rk (arrOf st) t<=Kr rk (arrOf st) v:=λt v y1 y2 y3 y4=>by by_cases z1:t<sa+na;exact Int.le_trans (soa.le y1 (show t<=sa+na-1 by lia) (by lia)) (no2 v y3 y4);exact sob.le (by lia) (by lia) y4
  by_cases i1:i<sa+k;rw[out i (.inl i1)];by_cases j1:j<sa+k;rw[out j (.inl j1)];exact soa.le q1 (by lia) (by lia);by_cases j2:j<sa+na+m;let⟨x,g1,v,v1,v2,v3⟩:=mid j (by lia) j2;rw[zfl g1,v3];exact low i v q1 i1 v1 (by lia);rw[out j (.inr (by lia))];exact low i j q1 i1 (by lia) q3;by_cases i2:i<sa+na+m;let⟨x,g1,v,v1,v2,v3⟩:=mid i (by lia) i2;by_cases j2:j<sa+na+m;have gj:=gi j;have gi':=gi i;rw[if_pos ⟨by lia,j2⟩,Η (by lia)]at gj;rw[if_pos ⟨by lia,i2⟩,Η (by lia)]at gi';rw[zfl gj,zfl gi'];exact List.pairwise_iff_getElem.mp o.2 _ _ _ _ (by lia);rw[out j (.inr (by lia)),zfl g1,v3];exact high v j (by lia) v2 (by lia) q3;rw[out i (.inr (by lia)),out j (.inr (by lia))];exact sob.le (by lia) (by lia) q3
 by_cases lh:na-k<=m;rw[if_pos lh];exact Ο (zif tw fin);rw[if_neg lh];exact Ο (zih tw fin)
end
section
variable{rk:Keyed->Int}
abbrev Cv(rk:Keyed->Int)(xs:Array Keyed):List (Nat×Nat×Nat)->Nat->Nat->Prop
 | [],a,b=>a=b|r::l,a,b=>r.1=a/\1<=r.2.1/\So rk xs a (a+r.2.1)/\Cv rk xs l (a+r.2.1) b
def Cv.le{xs:Array Keyed}:∀{l:List (Nat×Nat×Nat)}{a b:Nat},Cv rk xs l a b->a+l.length<=b
 | [],_,_,h=>by cases h;simp|r::l,a,b,h=>by have:=h.2.2.2.le;have:=h.2.1;simp;lia
def Cv.app{xs:Array Keyed}{m:List (Nat×Nat×Nat)}{b:Nat}:∀{l:List (Nat×Nat×Nat)}{a:Nat},Cv rk xs (l++m) a b↔∃c,Cv rk xs l a c/\Cv rk xs m c b
 | [],a=>⟨λh=>⟨a,rfl,h⟩,λ⟨c,h1,h2⟩=>by cases h1;exact h2⟩|r::l,a=>⟨λh=>by let⟨c,h1,h2⟩:=(Cv.app (l:=l)).mp h.2.2.2;exact⟨c,⟨h.1,h.2.1,h.2.2.1,h1⟩,h2⟩,λz=>(by let⟨c,h1,h2⟩:=z;exact ⟨h1.1,h1.2.1,h1.2.2.1,(Cv.app (l:=l)).mpr ⟨c,h1.2.2.2,h2⟩⟩)⟩
def So.congr{xs ys:Array Keyed}{lo hi:Nat}(h:So rk xs lo hi)(e:∀i,lo<=i->i<hi->ys[i]?=xs[i]?):So rk ys lo hi:=λi j h1 h2 h3=>by rw[zcN (e i h1 (by lia)),zcN (e j (by lia) h3)];exact h i j h1 h2 h3
def Cv.congr{xs ys:Array Keyed}:∀{l:List (Nat×Nat×Nat)}{a b:Nat},Cv rk xs l a b->(∀i,a<=i->i<b->ys[i]?=xs[i]?)->Cv rk ys l a b
 | [],_,_,h,_=>h| r::l,a,b,h,e=>by have:=h.2.2.2.le;exact⟨h.1,h.2.1,h.2.2.1.congr λi h1 h2=>e i h1 (by lia),h.2.2.2.congr λi h1 h2=>e i (by lia) h2⟩
def Cv.modify{xs:Array Keyed}{f:Nat×Nat×Nat->Nat×Nat×Nat}(hf:∀r,(f r).1=r.1/\(f r).2.1=r.2.1):∀{l:List (Nat×Nat×Nat)}{i a b:Nat},Cv rk xs l a b->Cv rk xs (l.modify i f) a b
 | [],i,_,_,h=>by cases i<;>exact h| r::l,0,a,b,h=>by show Cv rk xs (f r::l) a b;have:=hf r;unfold Cv;rw[this.1,this.2];exact h|r::l,i+1,a,b,h=>⟨h.1,h.2.1,h.2.2.1,Cv.modify hf h.2.2.2⟩
end
section
variable{prog:Χ}{w:ϒ}{A:ϔ}{E:Ω->Ι->Prop}{s:Ι}{κ:SortKind}{rk:Keyed->Int}{T:List Keyed}{st:SortSt}
def zfL{i lo:Nat}{Q:Bool->SortSt->Prop}(hc:Looks prog w A s κ rk T)(u:(T.map rk).Nodup)(b:SB κ T st)(hl:lo<=T.length)(cv:Cv rk (arrOf st) (pendingOf st).toList 0 lo)(hi:i+1<(pendingOf st).size)
  (h:∀st',SB κ T st'->Cv rk (arrOf st') (pendingOf st').toList 0 lo->(pendingOf st').size+1=(pendingOf st).size->(∀j,lo<=j->(arrOf st')[j]?=(arrOf st)[j]?)->Q Δ st'):wpS (model prog w) A E s (mergeAt' i) Q st:=by
 generalize ep:(pendingOf st).toList=p at cv;have pl:p.length=(pendingOf st).size:=by rw[<-ep];simp
 have s1:p=p.take i++(p[i]::p[i+1]::p.drop (i+2)):=by have e1:p.drop i=p[i]::p.drop (i+1):=List.drop_eq_getElem_cons (by lia);have e2:p.drop (i+1)=p[i+1]::p.drop (i+2):=List.drop_eq_getElem_cons (by lia);rw[<-e2,<-e1,List.take_append_drop]
 generalize x1:p[i]=x at s1;generalize y1:p[i+1]=y at s1;have gx:(pendingOf st)[i]?=Φ x:=by rw[<-ϋ,ep,Η (by lia),x1]
 have gy:(pendingOf st)[i+1]?=Φ y:=by rw[<-ϋ,ep,Η (by lia),y1]
 rw[s1]at cv;let⟨c,v1,v2⟩:=Cv.app.mp cv;let⟨sa,na,pw⟩:=x;let⟨sb,nb,z⟩:=y;let⟨w1,w2,w3,w4,w5,w6,w7⟩:=v2;dsimp only at w1 w2 w3 w4 w5 w6 w7;subst w1 w4;have le:=w7.le;refine zij hc u b gx gy ⟨w2,w5,by lia,w3,w6⟩ λst' b' pe fr so=>?_;have l0:(p.take i).length=i:=by simp;lia
 have ee:(pendingOf st').toList=p.take i++((sa,na+nb,pw)::p.drop (i+2)):=by
  rw[pe,Array.toList_eraseIdxIfInBounds,Array.toList_setIfInBounds,ep];conv=>lhs;rw[s1]
  rw[List.set_append_right _ _ (by lia),l0,Nat.sub_self,List.set_cons_zero,List.eraseIdx_append_of_length_le (by lia),l0,Nat.add_sub_cancel_left];rfl
 refine h st' b' ?_ ?_ λj hj=>fr j (.inr (by lia));rw[ee];refine Cv.app.mpr ⟨sa,v1.congr λi _ h2=>fr i (.inl h2),rfl,by dsimp only;lia,?_,?_⟩;rw[<-ϯ];exact so;rw[<-ϯ];exact w7.congr λi h1 h2=>fr i (.inr h1);rw[<-length_toList,ee,<-pl];simp;lia
structure SR(κ:SortKind)(rk:Keyed->Int)(T:List Keyed)(lo:Nat)(st:SortSt):Prop where
 b:SB κ T st
 cv:Cv rk (arrOf st) (pendingOf st).toList 0 lo
def SR.push{lo n:Nat}(r:SR κ rk T lo st)(h1:1<=n)(so:So rk (arrOf st) lo (lo+n)):SR κ rk T (lo+n) (setPending st ((pendingOf st).push (lo,n,0))):=by refine⟨⟨r.b.perm,r.b.kind,r.b.failed⟩,?_⟩;show Cv rk (arrOf st) ((pendingOf st).push (lo,n,0)).toList 0 (lo+n);rw[Array.toList_push];exact Cv.app.mpr ⟨lo,r.cv,rfl,h1,so,rfl⟩
def SR.mod{lo i:Nat}{f:Nat×Nat×Nat->Nat×Nat×Nat}(r:SR κ rk T lo st)(hf:∀r,(f r).1=r.1/\(f r).2.1=r.2.1):SR κ rk T lo (setPending st ((pendingOf st).modify i f)):=by refine⟨⟨r.b.perm,r.b.kind,r.b.failed⟩,?_⟩;show Cv rk (arrOf st) ((pendingOf st).modify i f).toList 0 lo;rw[Array.toList_modify];exact Cv.modify hf r.cv
def zmO{z lo n:Nat}{body:Nat->Option Unit×Unit->StateT SortSt Sem (ForInStep (Option Unit×Unit))}{Q:Option Unit×Unit->SortSt->Prop}(hc:Looks prog w A s κ rk T)(u:(T.map rk).Nodup)(r:SR κ rk T lo st)(hl:lo+n<=T.length)(so:So rk (arrOf st) lo (lo+n))
  (hb:∀x (R:ForInStep (Option Unit×Unit)->SortSt->Prop) st,((pendingOf st).size>1->wpS (model prog w) A E s (mergeAt' ((pendingOf st).size-2)) (λo st'=>o=Δ/\R (.yield (Ψ,())) st') st)->R (.done (Ψ,())) st->wpS (model prog w) A E s (body x (Ψ,())) R st)
  (h:∀st',SR κ rk T lo st'->So rk (arrOf st') lo (lo+n)->Q (Ψ,()) st'):wpS (model prog w) A E s (forIn [0:z] ((Ψ,()):Option Unit×Unit) body) Q st:=by
 refine ϫ (ϧ (I:=λ_ c st'=>c=(Ψ,())/\SR κ rk T lo st'/\So rk (arrOf st') lo (lo+n)) (Q:=λc st'=>c=(Ψ,())/\SR κ rk T lo st'/\So rk (arrOf st') lo (lo+n)) ?_ (λ_ _ z=>z) ⟨rfl,r,so⟩) ?_;rintro x c st' _ _ ⟨rfl,r,so⟩;refine hb x _ st' (λe=>?_) ⟨rfl,r,so⟩;exact zfL hc u r.b (by lia) r.cv (by lia) λst2 b2 c2 _ fr=>⟨rfl,rfl,⟨b2,c2⟩,so.congr λi h1 _=>fr i h1⟩;rintro c st' ⟨rfl,r,so⟩;exact h st' r so
def runs_wp{Q:Unit->SortSt->Prop}(hc:Looks prog w A s κ rk T)(u:(T.map rk).Nodup)(b:SB κ T st)(pe:pendingOf st = #[])(h2:2<=T.length)
  (h:∀st',SB κ T st'->So rk (arrOf st') 0 T.length->Q () st'):wpS (model prog w) A E s sortRuns' Q st:=by
 rw[sortRuns'_eq];refine Ο (wpS_get ?_);dsimp only;rw[b.size];generalize minRun' T.length T.length 0=mr;refine Ο (ϫ (ϧ (I:=λx c st'=>∃lo,c=(Ψ,lo)/\(x<=lo\/T.length<=lo)/\lo<=T.length/\SR κ rk T lo st') (Q:=λc st'=>c=(Ψ,T.length)/\SR κ rk T T.length st') ?_ ?_ ⟨0,rfl,.inl (le_refl _),zero_le _,b,by rw[pe];rfl⟩) ?_);rintro x c st' _ hx ⟨lo,rfl,l1,l2,r⟩;dsimp only;by_cases e:lo≥T.length;rw[if_pos e];obtain rfl:lo=T.length:=by lia
 exact Τ ⟨rfl,r⟩;rw[if_neg e];refine Ο (zlX hc u r.b (by lia) (by lia) λm st2 b2 p2 bl m1 m2 so=>?_);have r2:SR κ rk T lo st2:=⟨b2,by rw[p2];exact r.cv.congr λi _ h=>bl i h⟩;dsimp only;by_cases e2:m<mr;rw[if_pos e2];refine Ο (wpS_lift (Ϭ ⟨rfl,?_⟩));refine Ο (zkH hc u b2 m1 (by lia) (by lia) so λst3 b3 p3 bl3 so3=>?_);have r3:SR κ rk T lo st3:=⟨b3,by rw[p3];exact r2.cv.congr λi _ h=>bl3 i h⟩;rw[if_neg (by simp)];refine Ο (wpS_get ?_);cases(pendingOf st3).back? with|none=>exact Ο (wpS_modify (Τ ⟨_,rfl,by lia,by lia,SR.push r3 (by lia) so3⟩))| some x=>let⟨s1,n1,x⟩:=x;dsimp only;refine Ο (zmO hc u r3 (n:=min (T.length-lo) mr) (by lia) so3 (λx R st h1 h2=>?_) λst4 r4 so4=>?_);refine Ο (wpS_get ?_);by_cases e:(pendingOf st).size>1;rw[if_pos e,getElem?_pos (pendingOf st) _ (by lia)];generalize(pendingOf st)[(pendingOf st).size-2]=v;let⟨_,_,o⟩:=v;dsimp only;split;exact Τ h2;refine Ο (ϫ (h1 e) ?_);rintro o st ⟨rfl,z⟩;exact Τ z;rw[if_neg e];exact Τ h2;refine Ο (wpS_modify (Ο (wpS_modify (Τ ⟨_,rfl,by lia,by lia,SR.push (SR.mod r4 λ_=>⟨rfl,rfl⟩) (by lia) so4⟩))))
 rw[if_neg e2];refine Ο (wpS_get ?_);cases(pendingOf st2).back? with|none=>exact Ο (wpS_modify (Τ ⟨_,rfl,by lia,by lia,SR.push r2 m1 so⟩))| some x=>let⟨s1,n1,x⟩:=x;dsimp only;refine Ο (zmO hc u r2 (n:=m) (by lia) so (λx R st h1 h2=>?_) λst4 r4 so4=>?_);refine Ο (wpS_get ?_);by_cases e:(pendingOf st).size>1;rw[if_pos e,getElem?_pos (pendingOf st) _ (by lia)];generalize(pendingOf st)[(pendingOf st).size-2]=v;let⟨_,_,o⟩:=v;dsimp only;split;exact Τ h2;refine Ο (ϫ (h1 e) ?_);rintro o st ⟨rfl,z⟩;exact Τ z;rw[if_neg e];exact Τ h2;refine Ο (wpS_modify (Ο (wpS_modify (Τ ⟨_,rfl,by lia,by lia,SR.push (SR.mod r4 λ_=>⟨rfl,rfl⟩) m1 so4⟩))))
 rintro c st' ⟨lo,rfl,l1,l2,r⟩;obtain rfl:lo=T.length:=by lia
 exact⟨rfl,r⟩;rintro c st' ⟨rfl,r⟩;dsimp only;have e0:=r.cv.le;simp![length_toList,zero_add]at e0;refine Ο (ϫ (ϧ (I:=λx c st'=>c=(Ψ,())/\((pendingOf st').size<=1\/(pendingOf st').size+x<=T.length)/\SR κ rk T T.length st') (Q:=λc st'=>c=(Ψ,())/\(pendingOf st').size<=1/\SR κ rk T T.length st') ?_ ?_ ⟨rfl,.inr e0,r⟩) ?_);rintro x c st' _ hx ⟨rfl,l1,r⟩;refine Ο (wpS_get ?_);by_cases e:(pendingOf st').size<=1;rw[if_pos e];exact Τ ⟨rfl,e,r⟩
 . rw[if_neg e];refine Ο (zfL hc u r.b (le_refl _) r.cv ?_ λst2 b2 c2 z2 _=>Τ ⟨rfl,.inr (by lia),b2,c2⟩);generalize Option.any _ _=bb;cases bb<;>simp![Κ,if_true,if_false]<;>lia
 rintro c st' ⟨rfl,l1,r⟩;exact⟨rfl,by lia,r⟩
 . rintro c st' ⟨rfl,l1,r⟩;refine Τ (h st' r.b ?_);have cv:=r.cv;have pl:(pendingOf st').toList.length<=1:=by simpa using l1
   match e:(pendingOf st').toList,pl with| [],_=>rw[e]at cv;have:0=T.length:=cv;lia| [p],_=>rw[e]at cv;let⟨_,_,so,e'⟩:=cv;have e':0+p.2.1=T.length:=e';rw[e']at so;exact so
end
end Sr
end R
namespace R
open PySem PySem.Spec PyProof.Rows L2
def zjY:∀(as bs:List Int),lexZ as bs=HT.lexLt as bs
 | [],[]=>by simp[lexZ,HT.lexLt]| [],_::_=>by simp[lexZ,HT.lexLt]|_::_,[]=>by simp[lexZ,HT.lexLt]|a::as,b::bs=>by simp[lexZ,HT.lexLt,zjY as bs]
section
variable{prog:Χ}{w:ϒ}{A:ϔ}{E:Ω->Ι->Prop}{s:Ι}
def ziU(x:IsTupleKey (zaf prog w) h (ks.map Sum.inl) b):∃items,IsTup h b items/\IntsAre items.toList ks:=by
 let⟨o,items,n,ho,hc,hd,hi⟩:=x;refine⟨items,⟨o,ho,hc,n,hd⟩,?_⟩;have:∀{l:List Int}{vs:List Ω},ItemsAre (zaf prog w) (l.map Sum.inl) vs->IntsAre vs l:=by intro l;induction l with|nil=>intro vs h;cases h;exact .nil| cons x l ih=>intro vs h;cases h with| @cons _ v _ vs h1 h2=>rcases zat (show zfS (Sum.inl x) v=Δ from h1) with⟨i,t,e3,e4⟩|⟨y,t,e3,e4⟩;cases e3;subst e4;exact .cons _ _ (ih h2);cases e3
 exact this hi
end
section
variable[Mks]{X:Cx}{T:Tab}{cf:CF}{k:Nat}{N:List Str}{sc:Scope}{pos p:Pos}
def zk6:PE X (.Dict [] [] pos) (tE X.K cf .dnew3):=by refine PE.imp zlv λσ H Qv z=>?_;let⟨δ,ι,S,Q,hs,hh,w,q⟩:=z;intro p hp;exact q _ _ ⟨.ref S.len,ι++[p],S.push (.d3 []),Ext.obj hh hp _,⟨p,hh.last p,rfl⟩,hh.obj' hp _ _ ⟨List.nodup_nil,[],zap,rfl⟩,w⟩
end
end R
namespace R
open PySem PySem.Spec PyProof.Rows L2
variable[Mks]
structure Ltr(K:Frag)(ι:List Addr)(H:Hp)(S:R.St)(lks:List Nat)(ι2:List Addr)(H2:Hp)(S2:R.St):Prop where
 ext:Ext ι H ι2 H2
 rh:RH K ι2 H2 S2
 lck:∀l∈lks,S2.get l=S.get l
structure Wk(K:Frag)(J:It)(ds:List D)(lks:List Nat)(ι:List Addr)(H:Hp)(S:R.St):Prop where
 go:∀(i:Nat)(ι2:List Addr)(H2:Hp)(S2:R.St),Ltr K ι H S lks ι2 H2 S2->i<ds.length->J.go i H2
 yld:∀(i:Nat)(ι2:List Addr)(H2:Hp)(S2:R.St)(x:V)(H':Hp),Ltr K ι H S lks ι2 H2 S2->i<ds.length->J.yld i H2 x H'->Ext ι2 H2 ι2 H'/\RH K ι2 H' S2/\∃d,ds[i]?=Φ d/\RV K ι2 H' d x
 stop:∀(i:Nat)(ι2:List Addr)(H2:Hp)(S2:R.St),Ltr K ι H S lks ι2 H2 S2->ds.length<=i->J.stop i H2
 lks:∀l∈lks,l<S.len
abbrev LfI(K:Frag)(ι:List Addr)(H:Hp)(Q:List D×List Nat->R.St->Prop)(J:It)(H':Hp):Prop:=∃ds lks ι' S',Ext ι H ι' H'/\RH K ι' H' S'/\Q (ds,lks) S'/\Wk K J ds lks ι' H' S'
abbrev tI(K:Frag)(cf:CF)(cl:CL):TI:=λσ H R=>∃δ ι S Q,RS K ι H δ σ/\RH K ι H S/\W (evL cf cl δ S) Q/\∀J H',LfI K ι H Q J H'->R J H'
def PI.imp(h:PI X c e t)(i:∀a H Q,t' a H Q->t a H Q):PI X c e t':=λb s a H Q I q=>h b s a H Q I (i a H Q q)
abbrev iSeq(K:Frag)(tl:TE):TI:=λσ H R=>tl σ H λx H1=>∃a,x=.ref a/\(((∃xs,SqL K H1 a xs)/\R (Itl K a) H1)\/((∃xs,SqT K H1 a xs)/\R (Itt K a) H1))
section
variable{T:Tab}{cf:CF}{k:Nat}{N:List Str}{sc:Scope}{X:Cx}{pos p:Pos}{tg:Expr}
def zpY(hl:PE X l tl):PI X tg l (iSeq X.K tl):=by
 intro pins s σ H R I h;refine thn (hl pins s σ H _ I h) λv s1 z=>?_;let⟨x,H1,I1,r1,q1⟩:=z;let⟨a,rfl,q1⟩:=q1;cases r1;rcases q1 with⟨⟨xs,hq⟩,q⟩|⟨⟨xs,hq⟩,q⟩;let⟨its,rv,pl,hz⟩:=I1.list hq;refine wpAny_pyIter_list pl.isList ?_;refine⟨s1.heap.objs.size,[s1.heap.objs.size],_,_,H1,rfl,I1.kept (t':=s1.toks) λb o e=>Α _ e,ziR a _,⟨_,Μ _ rfl,rfl,rfl⟩,λb hb=>?_,q⟩;have e:b=s1.heap.objs.size:=by simpa using hb
 subst e;exact I1.fpOk (le_refl _) (I1.hok.fresh (le_refl _));let⟨its,rv,pl,hz⟩:=I1.tuple hq;refine wpAny_pyIter_tuple (show s1.heap.IsTuple a its.toArray from pl) ?_;refine⟨s1.heap.objs.size,[s1.heap.objs.size],_,_,H1,rfl,I1.kept (t':=s1.toks) λb o e=>Α _ e,zhR a _,⟨_,Μ _ rfl,rfl,rfl⟩,λb hb=>?_,q⟩;have e:b=s1.heap.objs.size:=by simpa using hb
 subst e;exact I1.fpOk (le_refl _) (I1.hok.fresh (le_refl _))
def zgo{K:Frag}{ι:List Addr}{H:Hp}{S:R.St}{a:Addr}{ds:List D}{lks:List Nat}(hl:∀l∈lks,l<S.len)
  (h:∀ι2 H2 S2,Ltr K ι H S lks ι2 H2 S2->∃xs,SqL K H2 a xs/\RVs K ι2 H2 ds xs/\∀ys,SqL K H2 a ys->True):Wk K (Itl K a) ds lks ι H S where
 go:=λi ι2 H2 S2 lt hi=>by let⟨xs,hq,rr,_⟩:=h ι2 H2 S2 lt;exact⟨xs,xs[i]'(by rw[rr.length];exact hi),hq,Η _⟩
 yld:=λi ι2 H2 S2 x H' lt hi y=>by let⟨xs,hq,rr,_⟩:=h ι2 H2 S2 lt;let⟨rfl,y⟩:=y;let⟨d,e,r⟩:=rr.get' (y xs hq);exact⟨Ext.refl _ _,lt.rh,d,e,r⟩
 stop:=λi ι2 H2 S2 lt hi=>by let⟨xs,hq,rr,_⟩:=h ι2 H2 S2 lt;exact⟨xs,hq,by rw[rr.length];exact hi⟩
 lks:=hl
def zoM{K:Frag}{ι:List Addr}{H:Hp}{S:R.St}{a:Addr}{ds:List D}{lks:List Nat}{xs:List V}(hl:∀l∈lks,l<S.len)(e:H a=Φ (.tup xs))(rr:RVs K ι H ds xs):Wk K (Itt K a) ds lks ι H S where
 go:=λi ι2 H2 S2 lt hi=>⟨xs,xs[i]'(by rw[rr.length];exact hi),SqT.of (lt.ext.kp.tups _ _ e),Η _⟩
 yld:=λi ι2 H2 S2 x H' lt hi y=>by let⟨rfl,y⟩:=y;let⟨d,e,r⟩:=(rr.ext lt.ext).get' (y xs (SqT.of (lt.ext.kp.tups _ _ e)));exact⟨Ext.refl _ _,lt.rh,d,e,r⟩
 stop:=λi ι2 H2 S2 lt hi=>⟨xs,SqT.of (lt.ext.kp.tups _ _ e),by rw[rr.length];exact hi⟩
 lks:=hl
def zmd(he:PE X e (tL X.K cf cl))(hlk:∀{δ:Ev}{S:R.St}{Q:List D×List Nat->R.St->Prop},W (evL cf cl δ S) Q->W (evL cf cl δ S) λr S'=>(∀l∈r.2,l<S'.len)/\Q r S'):PI X tg e (tI X.K cf cl):=by refine PI.imp (zpY he) λσ H R z=>?_;let⟨δ,ι,S,Q,hs,hh,w,q⟩:=z;refine tL.run hs hh (hlk w) λds lks v ι1 H1 S1 x1 hs1 hh1 sq w1=>?_;let⟨hl,w1⟩:=w1;let⟨a,xs,rfl,rr,kd⟩:=sq;refine⟨a,rfl,?_⟩;cases kd with|tmp h e=>exact .inl ⟨⟨xs,SqL.of e⟩,q _ _ ⟨ds,lks,ι1,S1,x1,hh1,w1,zgo hl λι2 H2 S2 lt=>⟨xs,SqL.of (lt.ext.keep h e (by simp)),rr.ext lt.ext,λ_ _=>trivial⟩⟩⟩|fix e=>exact .inl ⟨⟨xs,e.sq⟩,q _ _ ⟨ds,lks,ι1,S1,x1,hh1,w1,zgo hl λι2 H2 S2 lt=>⟨xs,(e.kp lt.ext.kp).sq,rr.ext lt.ext,λ_ _=>trivial⟩⟩⟩|tup e=>exact .inr ⟨⟨xs,SqT.of e⟩,q _ _ ⟨ds,lks,ι1,S1,x1,hh1,w1,zoM hl e rr⟩⟩| own l hm hi hg e=>refine .inl ⟨⟨xs,SqL.of e⟩,q _ _ ⟨ds,lks,ι1,S1,x1,hh1,w1,zgo hl λι2 H2 S2 lt=>?_⟩⟩;let⟨b,h2,zs,hz,rz⟩:=lt.rh.obj l (.lst ds) ((lt.lck l hm).trans hg);rw[zck lt.ext.pre hi]at h2;cases h2;exact⟨zs,SqL.of hz,rz,λ_ _=>trivial⟩
def zqD(h:W (evL cf (.val ce) δ S) Q):W (evL cf (.val ce) δ S) λr S'=>(∀l∈r.2,l<S'.len)/\Q r S':=by
 change W (Out.bind _ _) _ at h⊢;simp![zab] at h⊢;refine h.mono λx S1 h1=>?_;let⟨ds,e,h2⟩:=zaA h1;rw[e];refine⟨λl hl=>?_,h2⟩;cases x with
 |ref l'=>simp[lkOf]at hl;subst hl;simp![zcw]at e;split at e;rename_i e2;exact get_lt e2;exact nS e
 |_=>simp[lkOf]at hl
def zn4(h:W (evL cf (.comp n js g it c e) δ S) Q):W (evL cf (.comp n js g it c e) δ S) λr S'=>(∀l∈r.2,l<S'.len)/\Q r S':=by change W (Out.bind _ _) _ at h⊢;simp![zab] at h⊢;refine h.mono λds S1 h1=>h1.mono λr S2 h2=>?_;split at h2;rename_i c;rw[if_pos c];exact⟨λl hl=>by simp at hl,h2⟩;exact h2.elim
def zg2{K:Frag}{ι:List Addr}{H:Hp}{S:R.St}(lo:Int)(n:Nat):Wk K (Itr lo n) ((List.range n).map λ(j:Nat)=>D.int (lo+j)) [] ι H S where
 go:=λi ι2 H2 S2 lt hi=>by show i<n;simpa using hi
 yld:=λi ι2 H2 S2 x H' lt hi y=>by
  let⟨rfl,rfl⟩:=y;have hi:i<n:=by simpa using hi
  exact⟨Ext.refl _ _,lt.rh,.int (lo+i),by simp[hi],rfl⟩
 stop:=λi ι2 H2 S2 lt hi=>by show n<=i;simpa using hi
 lks:=λl hl=>by simp at hl
def zna(hg:Gl X "range"/\X.mg "range"=Ψ)(ha:PE X a (tE X.K cf ca))(hst:zak a=Δ):PI X tg (.Call (.Name "range" p) [a] [] pos) (tI X.K cf (.rng1 ca)):=by
 refine PI.imp (zjt hg.1 hg.2 (zaD ha hst) (zao hst [] X.env)) λσ H R z=>?_;let⟨δ,ι,S,Q,hs,hh,w,q⟩:=z;change W (Out.bind _ _) _ at w;simp![zab] at w;refine tE.run hs hh w λd v ι1 H1 S1 x1 hs1 hh1 r1 w1=>?_;cases d with
 |int j=>
  obtain rfl:v=.int j:=r1;dsimp only at w1;split at w1;rename_i c;have e:((List.range j.toNat).map λ(k:Nat)=>D.int k)=(List.range j.toNat).map λ(k:Nat)=>D.int (0+k):=by simp
  rw[e]at w1;exact⟨j,rfl,c.1,c.2,q _ _ ⟨_,[],ι1,S1,x1,hh1,w1,zg2 0 j.toNat⟩⟩;exact w1.elim
 |_=>exact w1.elim
def zm9(hg:Gl X "range"/\X.mg "range"=Ψ)(ha:PE X a (tE X.K cf ca))(hb:PE X b (tE X.K cf cb))(hst:zak a=Δ)(hst2:zak b=Δ):PI X tg (.Call (.Name "range" p) [a,b] [] pos) (tI X.K cf (.rng2 ca cb)):=by refine PI.imp (zjs hg.1 hg.2 (zdA ha (zaD hb hst2) (zao hst [b] X.env)) (by rw[zao hst,zao hst2];rfl) (zao hst2 [] X.env)) λσ H R z=>?_;let⟨δ,ι,S,Q,hs,hh,w,q⟩:=z;change W (Out.bind _ _) _ at w;simp![zab] at w;refine tE.run hs hh w λd v ι1 H1 S1 x1 hs1 hh1 r1 w1=>tE.run hs1 hh1 w1 λe u ι2 H2 S2 x2 hs2 hh2 r2 w2=>?_;split at w2;rename_i i j;obtain rfl:v=.int i:=r1;obtain rfl:u=.int j:=r2;split at w2;rename_i c;exact⟨i,j,rfl,c,q _ _ ⟨_,[],ι2,S2,x1.trans x2,hh2,w2,zg2 i (j-i).toNat⟩⟩;exact w2.elim;exact w2.elim
def za7{fp:List Addr}(I:Inv X pins σ H s)(k:∀b o,b∉fp->s.heap.get? b=Φ o->h'.get? b=Φ o)(hf:∀b∈fp,FpOk X pins H b):Inv X pins σ H {s with heap:=h',toks:=t'}:=by
 have nit:∀b u,H b=Φ u->b∉fp:=λb u e z=>by rw[(hf b z).1]at e;exact nS e
 refine I.step (g':=s.gens) (d':=s.drawn) (ch:=fp) (λb hb=>?_) (λb o _ _ hc e _=>k b o hc e) (λb o _ _ hc e _=>⟨o.slots,k b o hc e⟩) (λ_ _ _ _ n=>n)
  (λb o hc e=>⟨o,k b o hc e⟩) (λ_ _ e=>e) (λ_ _ _ e=>e) (λb ps e=>⟨#[],by rw[e];simp⟩) (λm hm=>?_) (λb u e=>?_) I.bare
 let⟨f0,f1,f2,f3,f4,f5⟩:=hf b hb;exact⟨f3,f1,f4,f5⟩;let⟨o,es,ep,ho,r⟩:=hm;exact⟨o,es,ep,k _ o (λz=>(hf _ z).2.1 rfl) ho,r⟩;refine(I.hok b u e).stay (λc v hc q=>k c v ?_ q) (λ_ q=>q) λ_ _ q=>q;rcases hc with z|z;rw[z];exact nit b u e;exact nit c _ z
abbrev tG(K:Frag)(is:List Nat):TG:=λv σ H Qv=>∃δ ι d δ',RS K ι H δ σ/\RV K ι H d v/\asgG is d δ=Φ δ'/\∀σ',RS K ι H δ' σ'->Qv σ' H
abbrev tGs(K:Frag)(is:List Nat):TGs:=λvs σ H Qv=>∃δ ι ds,RS K ι H δ σ/\RVs K ι H ds vs/\ds.length=is.length/\∀σ',RS K ι H (zeG is ds δ) σ'->Qv σ' H
def PG.imp(h:PG X tg t)(i:∀v a H Q,t' v a H Q->t v a H Q):PG X tg t':=λb s a H v u Q I r q=>h b s a H v u Q I r (i v a H Q q)
def PGs.imp(h:PGs X es t)(i:∀v a H Q,t' v a H Q->t v a H Q):PGs X es t':=λb s a H v u Q I r q=>h b s a H v u Q I r (i v a H Q q)
def znc(G:Gd T cf k N sc X)(hi:N[i]?=Φ x)(hl:zfU sc x=Δ):PG X (.Name x pos) (tG X.K [i]):=by refine PG.imp (zju (i:=i) (by rw[G.nm];exact G.nd) (by rw[G.nm];exact hi) (G.lc hl).1 (G.lc hl).2) λv σ H Qv z=>?_;let⟨δ,ι,d,δ',hs,r,e,q⟩:=z;simp![asgG]at e;cases e;exact q _ (hs.set r i)
abbrev zcf(sc:Scope)(N:List Str):List Nat->List Expr->Bool
 | [],[]=>Δ|i::is,.Name x _::es=>(N[i]?==Φ x)&&zfU sc x&&zcf sc N is es|_,_=>Θ
def zfv(G:Gd T cf k N sc X):∀{is:List Nat}{es:List Expr},zcf sc N is es=Δ->PGs X es (tGs X.K is)/\(assignEach es X.env).length=is.length/\(assignEach es X.env).findIdx? (·.1)=Ψ
 | [],[],_=>⟨PGs.imp znK λv σ H Qv z=>by
  let⟨δ,ι,ds,hs,r,hl,q⟩:=z
  have:ds=[]:=by simpa using hl
  subst this;exact⟨r,q σ (by simpa[zeG]using hs)⟩,rfl,rfl⟩
 | [],_::_,h=>by simp[zcf]at h|_::_,[],h=>by simp[zcf]at h| i::is,e::es,h=>by
  cases e with
  |Name x pos=>
   simp![zcf,Β,beq_iff_eq]at h;let⟨h1,h2,h3⟩:=zfv G (is:=is) (es:=es) h.2;refine⟨PGs.imp (zlp (zju (i:=i) (by rw[G.nm];exact G.nd) (by rw[G.nm];exact h.1.1) (G.lc h.1.2).1 (G.lc h.1.2).2) h1) λv σ H Qv ⟨δ,ι,ds,hs,r,hl,q⟩=>?_,?_,?_⟩;cases ds with|nil=>simp at hl| cons d ds=>let⟨v1,vr,rfl,r1,r2⟩:=r;refine⟨v1,vr,rfl,?_⟩;exact⟨δ.set i (Φ d),ι,ds,hs.set r1 i,r2,by simpa using hl,λσ' hs'=>q σ' (by simpa[zeG]using hs')⟩
   show((Θ,_)::assignEach es X.env).length=_;simp[h2];show((Θ,_)::assignEach es X.env).findIdx? _=_;simp[List.findIdx?_cons,h3]
  |_=>simp[zcf]at h
def zl2(h2:2<=is.length)(e:asgG is d δ=Φ δ'):∃ds,d=.tup ds/\ds.length=is.length/\δ'=zeG is ds δ:=by
 match is,h2 with
 |a::b::t,_=>
  cases d with
  |tup ds=>simp![asgG]at e;split at e;rename_i c;cases e;exact⟨ds,rfl,c,rfl⟩;exact nS e
  |_=>exact nS e
def zme(G:Gd T cf k N sc X)(h:zcf sc N is es=Δ)(h2:2<=is.length):PG X (.Tuple es j pos) (tG X.K is):=by let⟨h1,hn,hst⟩:=zfv G h;refine PG.imp (zpZ G.calm h1 hn hst) λv σ H Qv z=>?_;let⟨δ,ι,d,δ',hs,r,e,q⟩:=z;let⟨ds,rfl,c,rfl⟩:=zl2 h2 e;let⟨a,xs,rfl,ha,rr⟩:=r;exact⟨a,xs,rfl,SqT.of ha,by rw[rr.length];exact c,δ,ι,ds,hs,rr,c,q⟩
def Ext.tmp{p}(x:Ext ι H ι' H')(c:H p=Ψ)(e:H' p=Φ (.lst vs)):Ext ι H ι' (upd H' p (.lst us)):=by refine⟨x.pre,x.kp.trans (.same (Tups.upd_lst e) (λb o u h=>?_) λb i h=>?_),λb o d a=>?_⟩;rw[zai];exact h;rintro rfl;rw[e]at h;cases h;rw[zai];exact h;rintro rfl;rw[e]at h;cases h;let⟨f,g⟩:=x.rest b o d a;refine⟨?_,g⟩;rw[zai];exact f;rintro rfl;rw[c]at a;exact nS a
def Kp.tmp{p}(e:H p=Φ (.lst vs)):Kp H (upd H p (.lst us)):=.same (Tups.upd_lst e) (λb o u h=>by
 rw[zai];exact h;rintro rfl;rw[e]at h;cases h) λb a h=>by
 rw[zai];exact h;rintro rfl;rw[e]at h;cases h
def RH.tmp{K}{p}(b:RH K ι H S)(c:p∉ι)(e:H p=Φ (.lst vs)):RH K ι (upd H p (.lst us)) S:=⟨b.len,b.nd,λl o q=>by let⟨a,d,f,g⟩:=b.mem q;exact⟨a,d,f.up (prefix_refl _) (Kp.tmp e) (zai λz=>c (z▸g))⟩,(Kp.tmp e).tab b.tab⟩
def RS.up{K}(h:RS K ι H δ a)(b:ι <+: ι')(c:Kp H H'):RS K ι' H' δ a:=⟨h.1,λi d e=>let ⟨v,f,r⟩:=h.2 i d e;⟨v,f,r.up b c⟩⟩
def RH.lk{K}(a:RH K ι H S)(ks):RH K ι H {S with lk:=ks}:=⟨a.len,a.nd,λl o e=>a.obj l o e,a.tab⟩
def RS.csl{K}(h:RS K ι H δ g)(a)(b):RS K ι H (R.csl a b δ) (L2.csl a b g):=by
 refine⟨by simp[R.csl,L2.csl],λi d e=>?_⟩;unfold R.csl at e;unfold L2.csl;by_cases c:i<a;rw[getElem?_append_left (by simpa using c),List.getElem?_replicate]at e;rw[if_pos c]at e;cases e;rw[getElem?_append_right (by simpa using c)]at e⊢;simp![length_replicate,getElem?_map]at e⊢;cases f:b[i-a]? with
 |none=>rw[f]at e;exact nS e
 |some j=>
  rw[f]at e;simp![Option.map_some,Option.some.injEq]at e⊢;have l:δ[j]?=Φ (Φ d):=by
   cases z:δ[j]? with
   |none=>rw[z]at e;exact nS e
   |some o=>rw[z]at e;simp at e;rw[e]
  let⟨v,m,r⟩:=h.2 j d l;exact⟨v,by rw[m];rfl,r⟩
def zf6{α:Type}{xs:List α}{x}(h:xs[i]?=Φ x):xs.drop i=x::xs.drop (i+1):=by let⟨h1,h2⟩:=Ζ.mp h;rw[List.drop_eq_getElem_cons h1,h2]
abbrev CInv(K:Frag)(cf:CF)(g:List Nat)(c e:CE)(Q:List D×List Nat->R.St->Prop)(ds:List D)(lks:List Nat)(ι1:List Addr)(H1:Hp)(S1:R.St)(p:Addr)(i:Nat)(σ':L2.St)(H':Hp):Prop:=
 i<=ds.length/\∃δ' ι' S' acc vs,RS K ι' H' δ' σ'/\Ltr K ι1 H1 S1 lks ι' H' S'/\S'.lk=lks++S1.lk/\S1.len<=S'.len/\p∉ι'/\H' p=Φ (.lst vs)/\RVs K ι' H' acc vs/\
  W (zaw g (evT cf c) (evE cf e) (ds.drop i) δ' S') λrest S2=>(acc++rest).length<=16777216/\Q (acc++rest,[]) {S2 with lk:=S1.lk}
def zhH(hcf:CFok cf)(h:tLt X.K cf (.comp nt js is it c e) σ H Qv):zm0 nt js (tI X.K cf it) (tG X.K is) (tT X.K cf c) (tE X.K cf e) σ H Qv:=by
 let⟨δ,ι,S,Q,hs,hh,w,q⟩:=h;change W (Out.bind _ _) _ at w;simp![zab] at w;refine⟨δ,ι,S,_,hs,hh,w,λJ H1 k=>?_⟩;let⟨ds,lks,ι1,S1,x1,hh1,w1,wk⟩:=k;dsimp only at w1;unfold zbe at w1;rw[zab]at w1;intro p hp;have hpi:=hh1.fresh hp;refine⟨λi m σ' H'=>m=ds.length-i/\CInv X.K cf is c e Q ds lks ι1 H1 S1 p i σ' H',⟨_,rfl,zero_le _,R.csl nt js δ,ι1,{S1 with lk:=lks++S1.lk},[],[],((hs.ext x1).csl _ _).up (prefix_refl _) (Kp.new hp _),⟨Ext.new hp _,(hh1.lk _).new hp _,λl _=>rfl⟩,rfl,le_refl _,hpi,zap,rfl,?_⟩,?_⟩;refine w1.mono λrest S2 w2=>?_;simp![W_ok]at w2;split at w2;rename_i c;exact⟨by simpa using c,by simpa using w2⟩;exact w2.elim;rintro i m σ' H' ⟨rfl,hle,δ',ι',S',acc,vs,hs',lt,hlk,hln,hpn,hpv,ra,wt⟩;rcases Nat.lt_or_eq_of_le hle with hlt|rfl;refine .inr ⟨wk.go i ι' H' S' lt hlt,CInv X.K cf is c e Q ds lks ι1 H1 S1 p (i+1),λσ2 H2 h=>⟨_,by lia,rfl,h⟩,λx H2 hy=>?_⟩;let⟨x2,hh2,d,hd,rd⟩:=wk.yld i ι' H' S' x H2 lt hlt hy;have hs2:=hs'.ext x2;have hp2:=x2.keep hpn hpv (by simp);rw[zf6 hd]at wt;simp![zaw]at wt;cases ea:asgG is d δ' with
 |none=>rw[ea]at wt;exact wt.elim| some δ2=>
  rw[ea]at wt;dsimp only at wt;rw[zab]at wt;refine⟨δ',ι',d,δ2,hs2,rd,ea,λσ2 hs3=>?_⟩;refine tT.run hs3 hh2 ((frT hcf c δ2 S').w wt) λb ι3 H3 S3 x3 hs4 hh3 w3=>?_;let⟨w3,f3⟩:=w3;have hp3:=x3.keep hpn hp2 (by simp);have hpn3:=(x3.rest p _ hpn hp2).2;have keep:∀{S4:R.St},Frm S' S4->S4.lk=lks++S1.lk/\S1.len<=S4.len/\∀l∈lks,S4.get l=S1.get l:=λf=>⟨f.lk.trans hlk,le_trans hln f.lens,λl hl=>(f.same l (by rw[hlk];exact mem_append_left _ hl) (lt_of_lt_of_le (wk.lks l hl) hln)).trans (lt.lck l hl)⟩;cases b with
  |false=>simp![Κ,if_false]at w3⊢;let⟨k1,k2,k3⟩:=keep f3;exact⟨hlt,δ2,ι3,S3,acc,vs,hs4,⟨(lt.ext.trans x2).trans x3,hh3,k3⟩,k1,k2,hpn3,hp3,(ra.ext x2).ext x3,w3⟩| true=>
   simp![if_true]at w3⊢;rw[zab]at w3;refine tE.run hs4 hh3 ((frE hcf e δ2 S3).w w3) λz v ι4 H4 S4 x4 hs5 hh4 rz w4=>?_;let⟨w4,f4⟩:=w4;let⟨k1,k2,k3⟩:=keep (f3.trans f4);have hp4:=x4.keep hpn3 hp3 (by simp);have hpn4:=(x4.rest p _ hpn3 hp3).2;rw[zab]at w4;have ra4:=((ra.ext x2).ext x3).ext x4;have hlen:acc.length<16777216:=by let⟨rest,S5,_,w5⟩:=ziF w4;have:=w5.1;simp at this;lia
   refine⟨vs,hp4,by rw[ra4.length,ϑ];exact hlen,hlt,δ2,ι4,S4,acc++[z],vs++[v],hs5.up (prefix_refl _) (Kp.tmp hp4),⟨(((lt.ext.trans x2).trans x3).trans x4).tmp hp hp4,hh4.tmp hpn4 hp4,k3⟩,k1,k2,hpn4,zap,?_,?_⟩;exact(RVs.append (es:=[z]) (us:=[v]) ra4 ⟨v,[],rfl,rz,rfl⟩).up (prefix_refl _) (Kp.tmp hp4);refine w4.mono λrest S5 w5=>?_;simp![W_ok]at w5;simpa using w5
 refine .inl ⟨wk.stop _ ι' H' S' lt (le_refl _),?_⟩;rw[List.drop_length]at wt;simp![zaw,W_ok,append_nil]at wt;exact q _ _ ⟨acc,ι',{S' with lk:=S1.lk},p,vs,x1.trans lt.ext,rfl,ra,hpn,hpv,lt.rh.lk _,zkJ hh1 x1 hp,wt.2⟩
abbrev Ite(K:Frag)(a:Addr):It:=
 ⟨λi H=>∃xs x,SqL K H a xs/\xs[i]?=Φ x,
  λi H v H'=>∃T x,H T=Ψ/\v=.ref T/\H'=upd H T (.tup [.int i,x])/\∀xs,SqL K H a xs->xs[i]?=Φ x,
  λi H=>∃xs,SqL K H a xs/\xs.length<=i⟩
def ziS{P:Χ}{w:ϒ}{K:Frag}{es:List Expr}{j:Nat}{pt:Pos}{e it a:Addr}(hne:e≠it):Turn P w K (.Tuple es j pt) (Ite K a) [e,it] e
  (λi h=>(∃old,IsEnum h e it i old)/\h.IsListIter it a i) where
 mem:=by simp
 obj:=λi h st c hc=>by let⟨⟨old,h1⟩,⟨o4,h4,_,d4⟩⟩:=st;simp![mem_cons,not_mem_nil,or_false]at hc;rcases hc with rfl|rfl;exact⟨_,h1,λv z=>by cases z⟩;exact⟨_,h4,λv z=>by rw[d4]at z;cases z⟩
 keep:=λi h h' st k=>by let⟨⟨old,h1⟩,h4⟩:=st;exact⟨⟨old,k e (by simp) _ h1⟩,h4.at λo x=>k it (by simp) o x⟩
 item:=by
  intro X hP hw hK hc i pins s σ H E I hf st hg;subst hP hw hK;let⟨xs,x,hq,hx⟩:=hg;let⟨xv,rx,px,_⟩:=I.list hq;let⟨u,hu,ru⟩:=rx.get hx;let⟨⟨old,he⟩,h1⟩:=st;refine wpAny_pyNext_enum_item he h1 px.isList (x:=u) (by simpa using hu) hne λh' a1 a3 a5 a6 hk=>?_;have hn:H s.heap.objs.size=Ψ:=I.hok.fresh (le_refl _);have I1:Inv X pins σ (upd H s.heap.objs.size (.tup [.int i,x])) {s with heap:=s.heap.push {cls:=.type "tuple",data:=.seq #[.int i s.toks,u]},toks:=s.toks+1}:=I.laid (t':=s.toks+1) (λb u e=>Α _ e) (le_refl _) ⟨by rw[ϑ];simp,[.int i s.toks,u],.cons ⟨_,rfl⟩ (.cons ru .nil),⟨_,Μ _ rfl,rfl,_,rfl⟩⟩;have lt:∀{c o},s.heap.get? c=Φ o->c≠s.heap.objs.size:=λe=>ne_of_lt (Ν e);have nf:∀c∈[e,it],c≠s.heap.objs.size:=by intro c hc;simp![mem_cons,not_mem_nil,or_false]at hc;rcases hc with rfl|rfl;exact lt he;let⟨o,z,_⟩:=h1;exact lt z
  have hf1:∀c∈[e,it],FpOk X pins (upd H s.heap.objs.size (.tup [.int i,x])) c:=λc hc=>by let⟨f0,f⟩:=hf c hc;exact⟨by rw[zai (nf c hc)];exact f0,f⟩
  have two:∀{c:Addr},¬c∈[e,it]->c≠e/\c≠it:=λ{c} hc=>by simp![mem_cons,not_mem_nil,or_false,not_or]at hc;exact hc
  have k2:∀c o,¬c∈[e,it]->(s.heap.push {cls:=.type "tuple",data:=.seq #[.int i s.toks,u]}).get? c=Φ o->h'.get? c=Φ o:=λc o hc z=>by by_cases hs:c=s.heap.objs.size;subst hs;have e2:(s.heap.push {cls:=.type "tuple",data:=.seq #[.int i s.toks,u]}).get? s.heap.objs.size=_:=Μ _ rfl;rw[e2]at z;cases z;exact a5;exact hk c o (two hc).1 (two hc).2 ((Heap.get?_push_ne _ _ _ hs).symm.trans z)
  have I2:Inv X pins σ (upd H s.heap.objs.size (.tup [.int i,x])) {s with heap:=h',toks:=s.toks+1}:=za7 (s:={s with heap:=s.heap.push {cls:=.type "tuple",data:=.seq #[.int i s.toks,u]},toks:=s.toks+1}) (h':=h') (t':=s.toks+1) I1 k2 hf1;refine⟨_,rfl,?_⟩;refine wpAny_letOwnedTupleGo_enum a1 λh2' hz' hs'=>?_;refine⟨.ref s.heap.objs.size,upd H s.heap.objs.size (.tup [.int i,x]),za7 (t':=s.toks+1) I2 (λc o hc z=>hs'.extBut _ _ (two hc).1 z) hf1,rfl,⟨_,x,hn,rfl,rfl,λxs' hx'=>by rw[I.list_inj hx' hq];exact hx⟩,
   ⟨⟨_,hz'⟩,a3.extBut hs'.extBut (Ne.symm hne)⟩,λc hc=>(hf1 c hc).1⟩
 done:=by intro X hP hw hK hc i pins s σ H E I hf st hg;subst hP hw hK;let⟨xs,hq,hl⟩:=hg;let⟨xv,rx,px,_⟩:=I.list hq;let⟨⟨old,he⟩,h1⟩:=st;have l1:=rx.length;refine wpAny_pyNext_enum_end (I.ok.hd hc) he h1 px.isList (by simp;lia) λh' hk=>⟨rfl,za7 (t':=s.toks) I (λc o hc z=>hk c o (λq=>hc (by simp[q])) z) hf⟩
 self:=λ_ _ _ _ _ st h=>wpAny_pyIter_enum st.1.choose_spec h
def zmR{K}(hl:S.get l=Φ (.lst ds))(ha:ι[l]?=Φ a):Wk K (Ite K a) (ds.mapIdx λi d=>zcA (.int i) d) [l] ι H S:=by
 have get:∀{ι2 H2 S2},Ltr K ι H S [l] ι2 H2 S2->∃xs,SqL K H2 a xs/\RVs K ι2 H2 ds xs:=λ{ι2 H2 S2} lt=>by let⟨a',h2,xs,hx,rx⟩:=lt.rh.obj l (.lst ds) ((lt.lck l (by simp)).trans hl);rw[zck lt.ext.pre ha]at h2;cases h2;exact⟨xs,SqL.of hx,rx⟩
 refine⟨λi ι2 H2 S2 lt hi=>?_,λi ι2 H2 S2 x H' lt hi y=>?_,λi ι2 H2 S2 lt hi=>?_,λk hk=>?_⟩;let⟨xs,hx,rx⟩:=get lt;rw[length_mapIdx]at hi;have h1:=rx.length;exact⟨xs,xs[i]'(by lia),hx,Η _⟩;let⟨xs,hx,rx⟩:=get lt;let⟨T,u,hT,rfl,rfl,y1⟩:=y;let⟨d,ed,rd⟩:=rx.get' (y1 xs hx);have x2:Ext ι2 H2 ι2 (upd H2 T (.tup [.int i,u])):=Ext.new hT _;refine⟨x2,lt.rh.new hT _,zcA (.int i) d,by rw[List.getElem?_mapIdx,ed];rfl,?_⟩;exact⟨T,[.int i,u],rfl,zap,.int i,[u],rfl,rfl,u,[],rfl,rd.ext x2,rfl⟩;let⟨xs,hx,rx⟩:=get lt;rw[length_mapIdx]at hi;have h1:=rx.length;exact⟨xs,hx,by lia⟩;cases mem_singleton.mp hk;exact get_lt hl
end
end R
namespace R
open PySem PySem.Spec PyProof.Rows L2
open AutoSeq1 (wpAny_loadPart')
section
variable{prog:Χ}{w:ϒ}{A:ϔ}{E:Ω->Ι->Prop}{s:Ι}
def zie(hit:s.heap.IsTupleIter it t i)(ht:s.heap.IsTuple t items)(hx:items[i]?=Φ x)(hQ:∀h',h'.IsTupleIter it t (i+1)->Heap.SameBut it s.heap h'->Q x {s with heap:=h'}):wpAny (model prog w) A (Builtin.SmallTypes.nextOf (.ref it)) Q E s:=by
 let⟨o,ho,hc,hd⟩:=id hit;let⟨ol,hol,_,nl,hdl⟩:=ht;unfold Builtin.SmallTypes.nextOf;refine Ξ (Ϝ (name:=Str.ofString "__next__") hit.typeIs PySem.F.slot_tuple_iterator_next
  (ύ PySem.F.slot_tuple_iterator_next hit.typeIs PySem.F.entry_tuple_iterator_next ?_ (PySem.F.args_tuple_iterator_next_1 _)))
 show wpAny _ _ (field (.ref it) 0>>=_) _ _ s;refine Ξ (wpAny_field ho hd (x:=.ref t) rfl ?_);show wpAny _ _ (if(Ω.ref t==Ω.none)=Δ then _ else _) _ _ s;rw[if_neg (show ¬((Ω.ref t==Ω.none)=Δ) from Ε)];show wpAny _ _ (field (.ref it) 1>>=_) _ _ s;refine Ξ (wpAny_field ho hd (x:=.int i 0) rfl ?_);show wpAny _ _ (seqItems? (.ref t)>>=_) _ _ s;refine Ξ (Ϧ hol hdl ?_);simp![Int.toNat_natCast,hx];refine Ξ (wpAny_setField ho hd (by simp) (Λ ⟨x,rfl,Λ (hQ _ ?_ (Heap.SameBut.update ..))⟩));exact⟨_,Heap.get?_update_self _ ho (Obj.isFreed_of_fields (Obj.data_mapFields hd _)),(Obj.cls_mapFields ..).trans hc,by
  rw[Obj.data_mapFields hd];simp[rawInt]⟩
def zfJ(hh:A.handled=Ψ)(hit:s.heap.IsTupleIter it t i)(ht:s.heap.IsTuple t items)(hx:items[i]?=Ψ)(hE:∀h' e,Heap.ExtBut it s.heap h'->(∃o,h'.get? e=Φ o/\o.cls=.type "StopIteration")->E (.ref e) {s with heap:=h'}):wpAny (model prog w) A (Builtin.SmallTypes.nextOf (.ref it)) Q E s:=by
 let⟨o,ho,hc,hd⟩:=id hit;let⟨ol,hol,_,nl,hdl⟩:=ht;unfold Builtin.SmallTypes.nextOf;refine Ξ (Ϝ (name:=Str.ofString "__next__") hit.typeIs PySem.F.slot_tuple_iterator_next
  (ύ PySem.F.slot_tuple_iterator_next hit.typeIs PySem.F.entry_tuple_iterator_next ?_ (PySem.F.args_tuple_iterator_next_1 _)))
 show wpAny _ _ (field (.ref it) 0>>=_) _ _ s;refine Ξ (wpAny_field ho hd (x:=.ref t) rfl ?_);show wpAny _ _ (if(Ω.ref t==Ω.none)=Δ then _ else _) _ _ s;rw[if_neg (show ¬((Ω.ref t==Ω.none)=Δ) from Ε)];show wpAny _ _ (field (.ref it) 1>>=_) _ _ s;refine Ξ (wpAny_field ho hd (x:=.int i 0) rfl ?_);show wpAny _ _ (seqItems? (.ref t)>>=_) _ _ s;refine Ξ (Ϧ hol hdl ?_);simp![Int.toNat_natCast,hx]
 first|refine Ξ (Ϭ (Ξ (wpAny_setField ho hd (by simp) ?_)))|refine Ξ (wpAny_setField ho hd (by simp) ?_)
 show wpAny _ _ (newExc (.type "StopIteration") []>>=_) _ _ _;refine Ξ ?_;simp![newExc,newTuple];refine Ξ (ό ?_ (by size_fits));refine Ξ (m:=firstArgMember _ _) (wpAny_of_eq (a:=Ω.none) (by first|rfl|(simp![firstArgMember];rfl)) ?_);refine ό ?_ (by size_fits);simp![raiseNew];refine Ξ (wpAny_handled ?_)
 first|rw[show A.in1.handled=Ψ from hh]|rw[hh]
 refine Ξ (Λ (wpAny_throw ?_));exact hE _ _ (((Heap.SameBut.update ..).extBut.push _).push _) ⟨_,Μ _ rfl,rfl⟩
end
def zkt{i:Nat}(hh:A.handled=Ψ)(he:IsEnum s.heap e it i old)(hit:s.heap.IsTupleIter it t i)(ht:s.heap.IsTuple t items)(hx:items[i]?=Ψ)(hQ:∀h',Heap.ExtBut it s.heap h'->Q Ψ {s with heap:=h'}):wpAny (model prog w) A (pyNext (.ref e)) Q E s:=by
 have hT:s.TypeIs (.ref e) "enumerate":=⟨_,he,rfl⟩;unfold pyNext;refine Ξ (wpAny_attempt (Ϝ (name:=Str.ofString "__next__") hT PySem.F.slot_enumerate_next
  (ύ PySem.F.slot_enumerate_next hT PySem.F.entry_enumerate_next ?_ (PySem.F.args_enumerate_next_1 _))))
 show wpAny _ _ (field (.ref e) 2>>=_) _ _ _;refine Ξ (wpAny_field he rfl (x:=.ref it) rfl ?_);refine Ξ (zfJ hh hit ht hx λh' x he' hx'=>?_);let⟨o,ho,hc⟩:=hx';refine Ξ (ϭ (T:="StopIteration") (b:=Δ) ⟨o,ho,hc⟩ isSubtype_stop ?_);exact Λ (hQ _ he')
def zq4{prog:Χ}{w:ϒ}{A:ϔ}(hh:A.handled=Ψ)(it l:Addr)(hne:l≠it)(items:Array Ω) :
  Draws prog w A it [it,l] items.size (λi v=>items[i]?=Φ v) (λi h=>h.IsTupleIter it l i/\h.IsTuple l items) where
 live:=λ_ _ st=>let ⟨o,ho,_⟩:=st.1;⟨o,ho⟩
 frame:=λ_ _ _ st hk=>⟨let ⟨o,ho,r⟩:=st.1;⟨o,hk it (by simp) o ho,r⟩,let ⟨o,ho,r⟩:=st.2;⟨o,hk l (by simp) o ho,r⟩⟩
 item:=λi s Q E hi st hQ=>by refine zie st.1 st.2 (x:=items[i]) (by simp[hi]) λh' hit' hs'=>?_;exact hQ _ h' s.toks (by simp[hi]) ⟨hit',st.2.extBut hs'.extBut hne⟩ hs'
 done:=λs Q E st hE=>zfJ hh st.1 st.2 (by simp) hE
def zks(l)(items)(n)(dct)(sl):
  Meets (Builtin.«enumerate.__new__» ⟨[.type "enumerate",.ref l],[]⟩) (λ_ R s=>s.heap.get? l=Φ {cls:=.type "tuple",dict:=dct,data:=.seq items n,slots:=sl}/\
   R (.ok (.ret (.ref (s.heap.push {cls:=.type "tuple_iterator",data:=.fields #[.ref l,.int 0 0]}).objs.size)))
    {s with heap:=(s.heap.push {cls:=.type "tuple_iterator",data:=.fields #[.ref l,.int 0 0]}).push {cls:=.type "enumerate",data:=.fields #[.none,.bool Θ,.ref s.heap.objs.size,rawInt 0,.none,.none]}}):=
 .of_wp λprog w A R s h=>by
  let⟨hp,g,d,tk,os⟩:=s;let⟨hl,h⟩:=h;have hsub:=sub_enumerate;have hL:Heap.IsTuple (Ι.heap ⟨hp,g,d,tk,os⟩) l items:=⟨_,hl,rfl,n,rfl⟩
  wp_walk using wpAny_loadPart' hl
  refine wpAny_stack_any λst=>Λ ?_;split;rename_i c _ _ _ _ _;cases(c==Ω.type "enumerate")
  . wp_walk using wpAny_loadPart' hl,wpAny_pyIter_tuple hL
    exact⟨_,rfl,h⟩
  . wp_walk using wpAny_loadPart' hl,wpAny_pyIter_tuple hL
    exact⟨_,rfl,h⟩
  . wp_walk using wpAny_loadPart' hl,wpAny_pyIter_tuple hL
    exact⟨_,rfl,h⟩
def ziB(hL:s.heap.IsTuple l items)(h:∀h',IsEnum h' (s.heap.objs.size+1) s.heap.objs.size 0 .none->h'.IsTupleIter s.heap.objs.size l 0->h'.objs.size=s.heap.objs.size+2->
   (∀b o,s.heap.get? b=Φ o->h'.get? b=Φ o)->Q (.ref (s.heap.objs.size+1)) {s with heap:=h'}):
  wpAny (model prog w) A (call (.type "enumerate") [.ref l]) Q E s:=by
 let⟨⟨c,dct,dt,sl⟩,hl,hc,n,hd⟩:=hL;replace hc:c=.type "tuple":=hc;replace hd:dt=.seq items n:=hd;subst hc hd;refine callType_new PySem.F.called_enumerate (by decide) (PySem.F.typeCall_enumerate_1 _) (PySem.F.newCall_enumerate_1 _) (λobj=>PySem.F.args_object_init_2 obj _) PySem.F.entry_enumerate_new
  (zks l items n dct sl) ⟨hl,?_⟩
 have hz:(s.heap.push {cls:=.type "tuple_iterator",data:=.fields #[.ref l,.int 0 0]}).objs.size=s.heap.objs.size+1:=ϓ ..;show _/\_;rw[hz];have he:IsEnum ((s.heap.push {cls:=.type "tuple_iterator",data:=.fields #[.ref l,.int 0 0]}).push
   {cls:=.type "enumerate",data:=.fields #[.none,.bool Θ,.ref s.heap.objs.size,rawInt 0,.none,.none]}) (s.heap.objs.size+1) s.heap.objs.size 0 .none:=by
  have:=Μ (s.heap.push {cls:=.type "tuple_iterator",data:=.fields #[.ref l,.int 0 0]})
   (o:={cls:=.type "enumerate",data:=.fields #[.none,.bool Θ,.ref s.heap.objs.size,rawInt 0,.none,.none]}) rfl
  rw[hz]at this;exact this
 refine⟨⟨_,he,rfl⟩,h _ he ⟨_,Α _ (Μ _ rfl),rfl,rfl⟩ (by rw[ϓ,hz]) λb o x=>Α _ (Α _ x)⟩
variable[Mks]
section
variable{T:Tab}{cf:CF}{k:Nat}{N:List Str}{sc:Scope}{X:Cx}{pos p:Pos}{tg:Expr}
abbrev IteT(K:Frag)(a:Addr):It:=
 ⟨λi H=>∃xs x,SqT K H a xs/\xs[i]?=Φ x,
  λi H v H'=>∃T x,H T=Ψ/\v=.ref T/\H'=upd H T (.tup [.int i,x])/\∀xs,SqT K H a xs->xs[i]?=Φ x,
  λi H=>∃xs,SqT K H a xs/\xs.length<=i⟩
def zhT{P:Χ}{w:ϒ}{K:Frag}{es:List Expr}{j:Nat}{pt:Pos}{e it a:Addr}(hne:e≠it)(hai:a≠it)(hae:a≠e):Turn P w K (.Tuple es j pt) (IteT K a) [e,it] e
  (λi h=>(∃old,IsEnum h e it i old)/\h.IsTupleIter it a i) where
 mem:=by simp
 obj:=λi h st c hc=>by let⟨⟨old,h1⟩,⟨o4,h4,_,d4⟩⟩:=st;simp![mem_cons,not_mem_nil,or_false]at hc;rcases hc with rfl|rfl;exact⟨_,h1,λv z=>by cases z⟩;exact⟨_,h4,λv z=>by rw[d4]at z;cases z⟩
 keep:=λi h h' st k=>by let⟨⟨old,h1⟩,⟨o,h4,r⟩⟩:=st;exact⟨⟨old,k e (by simp) _ h1⟩,⟨o,k it (by simp) o h4,r⟩⟩
 item:=by
  intro X hP hw hK hc i pins s σ H E I hf st hg;subst hP hw hK;let⟨xs,x,hq,hx⟩:=hg;let⟨xv,rx,px,_⟩:=I.tuple hq;let⟨u,hu,ru⟩:=rx.get hx;let⟨⟨old,he⟩,h1⟩:=st;have hlt:i<xv.length:=(Ζ.mp hu).1;refine wpAny_pyNext_enum_itemD (n:=xv.toArray.size) (zq4 (A:=X.A.in1) (I.ok.hd hc) it a hai xv.toArray) he ⟨h1,px⟩ (by simpa using hlt) hne (by simp[hne,Ne.symm hae]) λx' h' tk0 hx' a1 a3 a5 a6 hk=>?_;have ex:x'=u:=by
   have hu':xv.toArray[i]?=Φ u:=by simpa using hu
   rw[hu']at hx';exact(Option.some.inj hx').symm
  subst ex;have hn:H s.heap.objs.size=Ψ:=I.hok.fresh (le_refl _);have I1:Inv X pins σ (upd H s.heap.objs.size (.tup [.int i,x])) {s with heap:=s.heap.push {cls:=.type "tuple",data:=.seq #[.int i tk0,x']},toks:=tk0+1}:=I.laid (t':=tk0+1) (λb u e=>Α _ e) (le_refl _) ⟨by rw[ϑ];simp,[.int i tk0,x'],.cons ⟨_,rfl⟩ (.cons ru .nil),⟨_,Μ _ rfl,rfl,_,rfl⟩⟩;have lt:∀{c o},s.heap.get? c=Φ o->c≠s.heap.objs.size:=λe=>ne_of_lt (Ν e);have nf:∀c∈[e,it],c≠s.heap.objs.size:=by intro c hc;simp![mem_cons,not_mem_nil,or_false]at hc;rcases hc with rfl|rfl;exact lt he;let⟨o,z,_⟩:=h1;exact lt z
  have hf1:∀c∈[e,it],FpOk X pins (upd H s.heap.objs.size (.tup [.int i,x])) c:=λc hc=>by let⟨f0,f⟩:=hf c hc;exact⟨by rw[zai (nf c hc)];exact f0,f⟩
  have two:∀{c:Addr},¬c∈[e,it]->c≠e/\c≠it:=λ{c} hc=>by simp![mem_cons,not_mem_nil,or_false,not_or]at hc;exact hc
  have k2:∀c o,¬c∈[e,it]->(s.heap.push {cls:=.type "tuple",data:=.seq #[.int i tk0,x']}).get? c=Φ o->h'.get? c=Φ o:=λc o hc z=>by by_cases hs:c=s.heap.objs.size;subst hs;have e2:(s.heap.push {cls:=.type "tuple",data:=.seq #[.int i tk0,x']}).get? s.heap.objs.size=_:=Μ _ rfl;rw[e2]at z;cases z;exact a5;exact hk c o (two hc).1 (two hc).2 ((Heap.get?_push_ne _ _ _ hs).symm.trans z)
  have I2:Inv X pins σ (upd H s.heap.objs.size (.tup [.int i,x])) {s with heap:=h',toks:=tk0+1}:=za7 (s:={s with heap:=s.heap.push {cls:=.type "tuple",data:=.seq #[.int i tk0,x']},toks:=tk0+1}) (h':=h') (t':=tk0+1) I1 k2 hf1;refine⟨_,rfl,?_⟩;refine wpAny_letOwnedTupleGo_enum a1 λh2' hz' hs'=>?_;refine⟨.ref s.heap.objs.size,upd H s.heap.objs.size (.tup [.int i,x]),za7 (t':=tk0+1) I2 (λc o hc z=>hs'.extBut _ _ (two hc).1 z) hf1,rfl,⟨_,x,hn,rfl,rfl,λxs' hx'=>by rw[I.tuple_inj hx' hq];exact hx⟩,
   ⟨⟨_,hz'⟩,(let ⟨o,ho,r⟩:=a3.1;⟨o,hs'.extBut _ _ (Ne.symm hne) ho,r⟩)⟩,λc hc=>(hf1 c hc).1⟩
 done:=by intro X hP hw hK hc i pins s σ H E I hf st hg;subst hP hw hK;let⟨xs,hq,hl⟩:=hg;let⟨xv,rx,px,_⟩:=I.tuple hq;let⟨⟨old,he⟩,h1⟩:=st;have l1:=rx.length;refine zkt (I.ok.hd hc) he h1 px (by simp;lia) λh' hk=>⟨rfl,za7 (t':=s.toks) I (λc o hc z=>hk c o (λq=>hc (by simp[q])) z) hf⟩
 self:=λ_ _ _ _ _ st h=>wpAny_pyIter_enum st.1.choose_spec h
abbrev zqU(K:Frag)(t:TA):TI:=λσ H R=>t σ H λvs H1=>∃a xs,vs=[.ref a]/\((SqL K H1 a xs/\R (Ite K a) H1)\/(SqT K H1 a xs/\R (IteT K a) H1))
def zlo(hg:Gl X "enumerate")(hm:X.mg "enumerate"=Ψ)(ha:PA X [a] ta)(hs:starEach [a] X.env=[(Θ,eval a X.env)]):
  PI X (.Tuple es j pt) (.Call (.Name "enumerate" p) [a] [] pos) (zqU X.K ta):=by
 intro pins s σ H R I h;refine Call_ (zek I hg hm boot_enumerate (PyProof.Rows.callWith_type1 (thn (ha pos pins s σ H _ I h) λus s1 z=>?_) hs rfl));let⟨vs,H1,I1,r1,q1⟩:=z;let⟨l,xs,e,q1⟩:=q1;subst e;cases r1 with
 |cons r rr=>
  cases rr;cases r;rcases q1 with⟨q1,q⟩|⟨q1,q⟩;let⟨xv,rx,px,_⟩:=I1.list q1;refine call_enumerate_list px.isList λh' he hi hsz hk=>?_;refine wpAny_pyIter_enum he ?_;refine⟨_,_,_,_,H1,rfl,I1.kept (t':=s1.toks) hk,ziS (Nat.succ_ne_self _),⟨⟨_,he⟩,hi⟩,λc hc=>?_,q⟩;simp![mem_cons,not_mem_nil,or_false]at hc;have:s1.heap.objs.size<=c:=by rcases hc with rfl|rfl;exact le_succ _;exact le_refl _
  exact I1.fpOk this (I1.hok.fresh this);let⟨xv,rx,px,_⟩:=I1.tuple q1;have hlt:l<s1.heap.objs.size:=px.lt;refine ziB (show s1.heap.IsTuple l xv.toArray from px) λh' he hi hsz hk=>?_;refine wpAny_pyIter_enum he ?_;refine⟨_,_,_,_,H1,rfl,I1.kept (t':=s1.toks) hk,zhT (Nat.succ_ne_self _) (ne_of_lt hlt) (ne_of_lt (ϥ hlt)),⟨⟨_,he⟩,hi⟩,λc hc=>?_,q⟩;simp![mem_cons,not_mem_nil,or_false]at hc;have:s1.heap.objs.size<=c:=by rcases hc with rfl|rfl;exact le_succ _;exact le_refl _
  exact I1.fpOk this (I1.hok.fresh this)
def zkQ{K}(ha:H a=Φ (.tup xs))(rx:RVs K ι H ds xs):Wk K (IteT K a) (ds.mapIdx λi d=>zcA (.int i) d) [] ι H S:=by have get:∀{ι2 H2 S2},Ltr K ι H S [] ι2 H2 S2->SqT K H2 a xs/\RVs K ι2 H2 ds xs:=λ{ι2 H2 S2} lt=>⟨SqT.of (lt.ext.kp.tups _ _ ha),rx.ext lt.ext⟩;refine⟨λi ι2 H2 S2 lt hi=>?_,λi ι2 H2 S2 x H' lt hi y=>?_,λi ι2 H2 S2 lt hi=>?_,λk hk=>by cases hk⟩;let⟨hx,rx⟩:=get lt;rw[length_mapIdx]at hi;have h1:=rx.length;exact⟨xs,xs[i]'(by lia),hx,Η _⟩;let⟨hx,rx⟩:=get lt;let⟨T,u,hT,rfl,rfl,y1⟩:=y;let⟨d,ed,rd⟩:=rx.get' (y1 xs hx);have x2:Ext ι2 H2 ι2 (upd H2 T (.tup [.int i,u])):=Ext.new hT _;refine⟨x2,lt.rh.new hT _,zcA (.int i) d,by rw[List.getElem?_mapIdx,ed];rfl,?_⟩;exact⟨T,[.int i,u],rfl,zap,.int i,[u],rfl,rfl,u,[],rfl,rd.ext x2,rfl⟩;let⟨hx,rx⟩:=get lt;rw[length_mapIdx]at hi;have h1:=rx.length;exact⟨xs,hx,by lia⟩
def zix(h:zdS S x=Φ r):(∃l ds,x=.ref l/\S.get l=Φ (.lst ds)/\r=(ds.mapIdx λi d=>zcA (.int i) d,[l]))\/∃ds,x=.tup ds/\r=(ds.mapIdx λi d=>zcA (.int i) d,[]):=by
 unfold zdS at h;cases x with
 |ref l=>
  dsimp only at h;cases e:S.get l with
  |none=>rw[e]at h;exact nS h
  |some o=>rw[e]at h;cases o with|lst ds=>cases h;exact .inl ⟨l,ds,rfl,e,rfl⟩|_=>exact nS h
 |tup ds=>cases h;exact .inr ⟨ds,rfl,rfl⟩|_=>exact nS h
def znb(hg:Gl X "enumerate"/\X.mg "enumerate"=Ψ)(ha:PE X a (tE X.K cf ca))(hst:zak a=Δ):PI X (.Tuple es j pt) (.Call (.Name "enumerate" p) [a] [] pos) (tI X.K cf (.enum ca)):=by refine PI.imp (zlo hg.1 hg.2 (zaD ha hst) (zao hst [] X.env)) λσ H R z=>?_;let⟨δ,ι,S,Q,hs,hh,w,q⟩:=z;change W (Out.bind _ _) _ at w;simp![zab] at w;refine tE.run hs hh w λd v ι1 H1 S1 x1 hs1 hh1 r1 w1=>?_;let⟨r,ez,w3⟩:=zaA w1;rcases zix ez with⟨l,ds,rfl,hl,rfl⟩|⟨ds,rfl,rfl⟩;let⟨a,ea,rfl⟩:=r1;let⟨a',h2,xs,hx,rx⟩:=hh1.obj l _ hl;rw[ea]at h2;cases h2;exact⟨a,xs,rfl,.inl ⟨SqL.of hx,q _ _ ⟨_,_,ι1,S1,x1,hh1,w3,zmR hl ea⟩⟩⟩;let⟨a,xs,rfl,hx,rx⟩:=r1;exact⟨a,xs,rfl,.inr ⟨SqT.of hx,q _ _ ⟨_,_,ι1,S1,x1,hh1,w3,zkQ hx rx⟩⟩⟩
end
end R
namespace R
open PySem PySem.SetTable
abbrev adv(mask:Nat)(p:Probe):Probe:=
 if p.more>0 then {p with j:=p.j+1,more:=p.more-1} else
 {p with j:=(leap mask p.i p.perturb).1,more:=runEnd mask (leap mask p.i p.perturb).1-(leap mask p.i p.perturb).1,i:=(leap mask p.i p.perturb).1,perturb:=(leap mask p.i p.perturb).2}
def zmM(t:SetTable)(p):t.advance p=adv t.mask p:=by unfold SetTable.advance adv;rfl
abbrev advN(mask:Nat):Nat->Probe->Probe
 |0,p=>p|n+1,p=>advN mask n (adv mask p)
def zgn(mask):∀(n:Nat)(p:Probe),advN mask (n+1) p=adv mask (advN mask n p)
 |0,p=>rfl|n+1,p=>zgn mask n (adv mask p)
def zb6(mask):∀(a b:Nat)(p:Probe),advN mask (a+b) p=advN mask b (advN mask a p)
 |0,b,p=>by rw[zero_add];rfl|a+1,b,p=>by rw[show a+1+b=a+b+1 by lia];exact zb6 mask a b (adv mask p)
abbrev zfh(mask i pb:Nat)(d:Option Nat):Probe:={j:=i,more:=runEnd mask i-i,i,perturb:=pb,dummy:=d}
abbrev okP(mask:Nat)(p:Probe):Prop:=p.i<=mask/\p.more<=9/\p.perturb<2^64/\p.j+p.more<=mask
def zjb{mask i}(h:i<=mask):runEnd mask i-i<=9/\i<=runEnd mask i/\runEnd mask i<=mask:=by unfold runEnd;split<;>lia
def zjz{mask i pb}(h:i<=mask)(hp:pb<2^64):okP mask (zfh mask i pb d):=by have:=zjb h;exact⟨h,this.1,hp,by show i+(runEnd mask i-i)<=mask;lia⟩
def zcT{mask i pb}(hp:pb<2^64):(leap mask i pb).1<=mask/\(leap mask i pb).2<2^64:=by unfold leap;refine⟨?_,?_⟩;have:=Nat.mod_lt (i*5+1+pb/32) (show 0<mask+1 by lia);show _%(mask+1)<=mask;lia;show pb/32<_;lia
def znV{mask}(h:okP mask p):okP mask (adv mask p):=by let⟨h1,h2,h3,h4⟩:=h;unfold adv;split;exact⟨h1,by show p.more-1<=9;lia,h3,by show p.j+1+(p.more-1)<=mask;lia⟩;have:=zcT (mask:=mask) (i:=p.i) h3;exact zjz (d:=p.dummy) this.1 this.2
def zeX{mask}:∀(n:Nat){p:Probe},okP mask p->okP mask (advN mask n p)
 |0,_,h=>h|n+1,_,h=>zeX n (znV h)
def zcB(t:SetTable)(h):okP t.mask (t.probeStart h):=by refine zjz (d:=Ψ) ?_ ?_;have:=Nat.mod_lt (bits h) (show 0<t.mask+1 by lia);lia;unfold bits;lia
def zeM(mask):∀(n:Nat)(p:Probe),p.more=n->advN mask (n+1) p=zfh mask (leap mask p.i p.perturb).1 (leap mask p.i p.perturb).2 p.dummy
 |0,p,h=>by show adv mask p=_;unfold adv;rw[if_neg (by lia)];rfl| n+1,p,h=>by show advN mask (n+1) (adv mask p)=_;rw[show adv mask p={p with j:=p.j+1,more:=p.more-1} by unfold adv;rw[if_pos (by lia)]];exact zeM mask n {p with j:=p.j+1,more:=p.more-1} (by show p.more-1=n;lia)
def zhf(mask):∀(n:Nat)(p:Probe),n<=p.more->(advN mask n p).j=p.j+n
 |0,p,_=>rfl| n+1,p,h=>by show(advN mask n (adv mask p)).j=_;rw[show adv mask p={p with j:=p.j+1,more:=p.more-1} by unfold adv;rw[if_pos (by lia)],zhf mask n _ (by show n<=p.more-1;lia)];show p.j+1+n=_;lia
abbrev lps(mask:Nat):Nat->Nat×Nat->Nat×Nat
 |0,x=>x|n+1,x=>lps mask n (leap mask x.1 x.2)
def zma(mask):∀(n i pb:Nat)(d:Option Nat),i<=mask->pb<2^64->∃k,k<=10*n/\advN mask k (zfh mask i pb d)=zfh mask (lps mask n (i,pb)).1 (lps mask n (i,pb)).2 d
 |0,i,pb,d,_,_=>⟨0,le_refl _,rfl⟩| n+1,i,pb,d,hi,hp=>by have h1:=zjb hi;have h2:=zcT (mask:=mask) (i:=i) hp;have e:=zeM mask _ (zfh mask i pb d) rfl;let⟨k2,hk2,e2⟩:=zma mask n (leap mask i pb).1 (leap mask i pb).2 d h2.1 h2.2;refine⟨runEnd mask i-i+1+k2,by lia,?_⟩;rw[zb6];exact(congrArg _ e).trans e2
def zjO(mask):∀(a b:Nat)(x:Nat×Nat),lps mask (a+b) x=lps mask b (lps mask a x)
 |0,b,x=>by rw[zero_add];rfl|a+1,b,x=>by rw[show a+1+b=a+b+1 by lia];exact zjO mask a b _
def zmt{mask}:∀(n:Nat)(x:Nat×Nat),x.1<=mask->x.2<2^64->(lps mask n x).1<=mask/\(lps mask n x).2<2^64
 |0,x,h,h2=>⟨h,h2⟩|n+1,x,h,h2=>zmt n _ (zcT h2).1 (zcT h2).2
def zms(mask):∀(n:Nat)(x:Nat×Nat),(lps mask n x).2=x.2/32^n
 |0,x=>by simp[lps]| n+1,x=>by rw[lps,zms mask n];show x.2/32/32^n=_;rw[Nat.div_div_eq_div_mul,Nat.pow_succ,Nat.mul_comm]
abbrev cyc(mask:Nat):Nat->Nat->Nat
 |0,i=>i|n+1,i=>cyc mask n ((i*5+1)%(mask+1))
def zjN(mask):∀(n i:Nat),(lps mask n (i,0)).1=cyc mask n i
 |0,_=>rfl| n+1,i=>by show(lps mask n ((i*5+1+0/32)%(mask+1),0/32)).1=_;exact zjN mask n _
def zfc(mask):∀(a b i:Nat),cyc mask (a+b) i=cyc mask b (cyc mask a i)
 |0,b,i=>by rw[zero_add];rfl|a+1,b,i=>by rw[show a+1+b=a+b+1 by lia];exact zfc mask a b _
abbrev mk4(mask:Nat):Prop:=mask=7\/mask=31\/mask=127\/mask=511
abbrev orb(mask:Nat):Nat->Nat->List Nat
 |0,_=>[]|n+1,i=>i::orb mask n ((i*5+1)%(mask+1))
def zjy(mask):∀(n i:Nat),j∈orb mask n i->∃k,k<n/\cyc mask k i=j
 |0,_,h=>by cases h| n+1,i,h=>by rcases mem_cons.mp h with rfl|h;exact⟨0,by lia,rfl⟩;let⟨k,hk,e⟩:=zjy mask n _ h;exact⟨k+1,by lia,e⟩
abbrev zso(mask:Nat):Bool:=(List.range (mask+1)).all λj=>(orb mask (mask+1) 0).contains j
def zre{mask}(h:mk4 mask):zso mask=Δ/\cyc mask (mask+1) 0=0:=by rcases h with rfl|rfl|rfl|rfl<;>decide +kernel
def zoz{mask i j}(h:mk4 mask)(hi:i<=mask)(hj:j<=mask):∃n,n<=mask/\cyc mask n i=j:=by
 let⟨h1,h2⟩:=zre h;have from0:∀j,j<=mask->∃k,k<mask+1/\cyc mask k 0=j:=λj hj=>by have:=all_eq_true.mp h1 j (mem_range.mpr (by lia));exact zjy mask _ _ (List.contains_iff_mem.mp this)
 let⟨a,ha,ea⟩:=from0 i hi;let⟨b,hb,eb⟩:=from0 j hj;by_cases c:a<=b;refine⟨b-a,by lia,?_⟩;rw[<-ea,<-zfc,show a+(b-a)=b by lia,eb];refine⟨mask+1-a+b,by lia,?_⟩;rw[<-ea,<-zfc,show a+(mask+1-a+b)=mask+1+b by lia,zfc,h2,eb]
def zhd{mask i pb j}(h:mk4 mask)(hi:i<=mask)(hp:pb<2^64)(hj:j<=mask):∃n,n<=mask+13/\(lps mask n (i,pb)).1=j:=by have h0:=zmt 13 (i,pb) hi hp;let⟨n,hn,e⟩:=zoz h h0.1 hj;refine⟨13+n,by lia,?_⟩;rw[zjO,show lps mask 13 (i,pb)=((lps mask 13 (i,pb)).1,0) from Prod.ext rfl ?_,zjN,e];rw[zms];exact Nat.div_eq_of_lt (lt_of_lt_of_le hp (by decide))
def zdn{mask}(h:mk4 mask)(ok:okP mask p)(hj:j<=mask):∃n,n<=10*(mask+14)+9/\(advN mask n p).j=j:=by let⟨o1,o2,o3,o4⟩:=ok;have e:=zeM mask _ p rfl;have hl:=zcT (mask:=mask) (i:=p.i) o3;let⟨n,hn,e2⟩:=zhd h hl.1 hl.2 hj;let⟨k2,hk2,e3⟩:=zma mask n _ _ p.dummy hl.1 hl.2;refine⟨p.more+1+k2,by lia,?_⟩;rw[zb6,e,e3,show((leap mask p.i p.perturb).1,(leap mask p.i p.perturb).2)=leap mask p.i p.perturb from rfl];rw[show((leap mask p.i p.perturb).1,(leap mask p.i p.perturb).2)=leap mask p.i p.perturb from rfl]at e2;exact e2
structure Tt(t:SetTable):Prop where
 m4:mk4 t.mask
 rise:Rise t.place
 le:∀j∈t.place.toList,j<=t.mask
 dm:t.dummies = #[]
 room:t.place.size*5<t.mask*3
def zhM(h:Rise xs)(hi:i<xs.size):SetTable.below xs xs[i]=i:=by
 let⟨b1,b2,b3⟩:=zb5 h xs[i];have h1:¬i<SetTable.below xs xs[i]:=λc=>by have:=b2 i hi c;lia
 have h2:¬SetTable.below xs xs[i]<i:=λc=>by have q1:=b3 _ (by lia) (le_refl _);have q2:=zdp h c hi;lia
 lia
section
variable{t:SetTable}
def zft(T:Tt t)(hi:i<t.place.size):t.slot t.place[i]=.live i:=by unfold SetTable.slot;dsimp only;rw[zhM T.rise hi,if_pos (by simp[hi])]
def zi0(T:Tt t)(hj:j∉t.place.toList):t.slot j=.empty:=by unfold SetTable.slot;dsimp only;rw[if_neg,T.dm,if_neg];simp[SetTable.has];intro z;have z:=eq_of_beq z;let⟨h,e⟩:=Array.getElem?_eq_some_iff.mp z;exact hj (e▸Array.getElem_mem_toList h)
def zhV(T:Tt t)(j):(t.slot j=.empty/\j∉t.place.toList)\/∃(i:Nat) (h:i<t.place.size),t.slot j=.live i/\t.place[i]=j:=by
 by_cases c:j∈t.place.toList;let⟨i,hi,e⟩:=ϖ.mp c;have hi':i<t.place.size:=by simpa using hi
 have e':t.place[i]=j:=by simpa using e
 refine .inr ⟨i,hi',?_,e'⟩;rw[<-e'];exact zft T hi';exact .inl ⟨zi0 T c,c⟩
def zfs(T:Tt t):∃e,e<=t.mask/\e∉t.place.toList:=by
 apply Classical.byContradiction;intro no;have all:∀e,e<=t.mask->e∈t.place.toList:=λe he=>Classical.byContradiction λz=>no ⟨e,he,z⟩;have key:∀m,m<=t.mask+1->SetTable.below t.place m=m:=by
  intro m;induction m with
  |zero=>exact λ_=>zeE T.rise| succ m ih=>
   intro hm;let⟨i,hi,e⟩:=ϖ.mp (all m (by lia));have hi':i<t.place.size:=by simpa using hi
   have e':t.place[i]=m:=by simpa using e
   have h1:=ih (by lia);rw[<-e',zhM T.rise hi']at h1;have:=zeF T.rise hi';rw[e',h1]at this;rw[this,e']
 have h1:=key (t.mask+1) (le_refl _);have h2:=(zb5 T.rise (t.mask+1)).1;have:=T.room;rcases T.m4 with z|z|z|z<;>lia
inductive Mt1(t:SetTable)(ha:Nat->Int)(h:Int)(p:Probe):Met->Prop where
 |fr (k:Nat) (e:(advN t.mask k p).j∉t.place.toList) (b:∀k',k'<k->∃(i:Nat) (hi:i<t.place.size),t.place[i]=(advN t.mask k' p).j/\ha i≠h):Mt1 t ha h p (.empty (advN t.mask k p).j Ψ)
 |ca (k i:Nat) (hi:i<t.place.size) (e:t.place[i]=(advN t.mask k p).j) (eh:ha i=h) (b:∀k',k'<k->∃(i:Nat) (hi:i<t.place.size),t.place[i]=(advN t.mask k' p).j/\ha i≠h):Mt1 t ha h p (.candidate (advN t.mask k p).j i (advN t.mask (k+1) p))
def zmN(mask)(p):(adv mask p).dummy=p.dummy:=by unfold adv;split<;>rfl
def zmD(T:Tt t)(ha)(h):∀(n f:Nat)(p:Probe),n<f->p.dummy=Ψ->(advN t.mask n p).j∉t.place.toList->∃m,SetTable.probe.go t ha h f p=Φ m/\Mt1 t ha h p m
 |n,0,p,hf,_,_=>by lia| n,f+1,p,hf,hd,he=>by
  rcases zhV T p.j with⟨s1,s2⟩|⟨i,hi,s1,s2⟩;refine⟨.empty p.j Ψ,?_,.fr 0 s2 λk' z=>by lia⟩;unfold SetTable.probe.go;rw[s1,hd];by_cases c:ha i=h;refine⟨.candidate p.j i (t.advance p),?_,?_⟩;unfold SetTable.probe.go;rw[s1];dsimp only;rw[if_pos (by simpa using c)];rw[zmM];exact .ca 0 i hi s2 c λk' z=>by lia
  cases n with
  |zero=>exact absurd (s2▸Array.getElem_mem_toList hi) he| succ n=>
   let⟨m,e1,e2⟩:=zmD T ha h n f (adv t.mask p) (by lia) ((zmN _ _).trans hd) he;refine⟨m,?_,?_⟩;unfold SetTable.probe.go;rw[s1];dsimp only;rw[if_neg (by simpa using c),zmM];exact e1;have up:∀k,(∀k',k'<k->∃(i:Nat) (hi:i<t.place.size),t.place[i]=(advN t.mask k' (adv t.mask p)).j/\ha i≠h)->∀k',k'<k+1->∃(i:Nat) (hi:i<t.place.size),t.place[i]=(advN t.mask k' p).j/\ha i≠h:=λk b k' hk=>by cases k' with|zero=>exact⟨i,hi,s2,c⟩|succ k'=>exact b k' (by lia)
   cases e2 with|fr k e b=>exact .fr (k+1) e (up k b)|ca k i' hi' e eh b=>exact .ca (k+1) i' hi' e eh (up k b)
def zfF(T:Tt t)(ha)(h)(ok:okP t.mask p)(hd:p.dummy=Ψ):∃m,t.probe ha h p=Φ m/\Mt1 t ha h p m:=by let⟨e,e1,e2⟩:=zfs T;let⟨n,n1,n2⟩:=zdn T.m4 ok e1;refine zmD T ha h n _ p ?_ hd (n2▸e2);show n<10*turns t.mask;unfold turns;lia
abbrev Rch(t:SetTable)(h:Int)(j:Nat):Prop:=∃n,(advN t.mask n (t.probeStart h)).j=j/\∀n',n'<n->(advN t.mask n' (t.probeStart h)).j∈t.place.toList
abbrev Lies(t:SetTable)(hs:List Int):Prop:=hs.length=t.place.size/\∀(i j:Nat)(h:Int),t.place.toList[i]?=Φ j->hs[i]?=Φ h->Rch t h j
end
abbrev bgn(mask:Nat)(h:Int):Probe:=zfh mask (bits h%(mask+1)) (bits h) Ψ
def zmJ(t:SetTable)(h):t.probeStart h=bgn t.mask h:=rfl
abbrev RchO(mask:Nat)(h:Int)(P:Nat->Prop)(j:Nat):Prop:=∃n,(advN mask n (bgn mask h)).j=j/\∀n',n'<n->P (advN mask n' (bgn mask h)).j
def RchO.mono{mask}(r:RchO mask h P j)(i:∀x,P x->Q x):RchO mask h Q j:=let ⟨n,e,b⟩:=r;⟨n,e,λn' hn=>i _ (b n' hn)⟩
structure OI(mask:Nat)(ow:Array (Option Nat))(js:List Nat)(hs:List Int):Prop where
 sz:ow.size=mask+1
 len:js.length=hs.length
 nd:js.Nodup
 le:∀j∈js,j<=mask
 own:∀j k,ow.getD j Ψ=Φ k↔js[k]?=Φ j
 rch:∀(k:Nat) h j,hs[k]?=Φ h->js[k]?=Φ j->RchO mask h (·∈js) j
section
variable{mask:Nat}{ow:Array (Option Nat)}{js:List Nat}{hs:List Int}
def OI.free(o:OI mask ow js hs)(hj:j<=mask):(ow.getD j (Φ 0)).isNone=Δ↔j∉js:=by
 have e:ow.getD j (Φ 0)=ow.getD j Ψ:=by simp[Array.getD,o.sz,show j<mask+1 by lia]
 rw[e];cases h:ow.getD j Ψ with
 |none=>refine⟨λ_ z=>?_,λ_=>rfl⟩;let⟨k,hk,e⟩:=ϖ.mp z;have:=(o.own j k).mpr (by rw[Η hk,e]);rw[h]at this;exact nS this
 |some k=>refine⟨λz=>(by exact nB z),λz=>absurd (mem_of_getElem? ((o.own j k).mp h)) z⟩
def zhB(o:OI mask ow js hs):∀(f n i pb:Nat),n<f->i<=mask->pb<2^64->(lps mask n (i,pb)).1∉js->
  ∃j,SetTable.layClean.free mask ow f i pb=Φ j/\j<=mask/\j∉js/\∃q,(advN mask q (zfh mask i pb Ψ)).j=j/\∀q',q'<q->(advN mask q' (zfh mask i pb Ψ)).j∈js
 |0,n,i,pb,hf,_,_,_=>by lia| f+1,n,i,pb,hf,hi,hp,hn=>by
  have rl:=zjb hi;unfold SetTable.layClean.free;cases e:(List.range (runEnd mask i+1-i)).find? λk=>(ow.getD (i+k) (Φ 0)).isNone with
  |some k=>
   dsimp only;let⟨e1,as,bs,e2,e3⟩:=List.find?_eq_some_iff_append.mp e;have hk:k<runEnd mask i+1-i:=mem_range.mp (by rw[e2];simp);have ea:as=List.range k:=by
    have h1:=congrArg (List.take as.length) e2;rw[List.take_left,List.take_range]at h1;have h2:(List.range (runEnd mask i+1-i))[as.length]?=Φ k:=by rw[e2];simp
    have h3:=Ζ.mp h2;let⟨h4,h5⟩:=h3;rw[List.getElem_range]at h5;rw[h5]at h1;rw[<-h1,Nat.min_eq_left (by lia)]
   refine⟨i+k,rfl,by lia,(o.free (by lia)).mp e1,k,?_,λq' hq=>?_⟩;exact zhf mask k _ (by show k<=runEnd mask i-i;lia);rw[zhf mask q' _ (by show q'<=runEnd mask i-i;lia)];show i+q'∈js;have:=e3 q' (by rw[ea];exact mem_range.mpr hq);apply Classical.byContradiction;intro z;rw[(o.free (by lia)).mpr z]at this;exact nB this
  |none=>
   dsimp only;have al:∀k,k<=runEnd mask i-i->i+k∈js:=λk hk=>by have:=List.find?_eq_none.mp e k (mem_range.mpr (by lia));apply Classical.byContradiction;intro z;exact this ((o.free (by lia)).mpr z)
   cases n with|zero=>exact absurd (al 0 (by lia)) hn| succ n=>have lk:=zcT (mask:=mask) (i:=i) hp;let⟨j,a1,a2,a3,q,a4,a5⟩:=zhB o f n (leap mask i pb).1 (leap mask i pb).2 (by lia) lk.1 lk.2 hn;have re:=zeM mask _ (zfh mask i pb Ψ) rfl;refine⟨j,a1,a2,a3,runEnd mask i-i+1+q,?_,λq' hq=>?_⟩;rw[zb6];exact(congrArg (λp=>(advN mask q p).j) re).trans a4;by_cases c:q'<=runEnd mask i-i;rw[zhf mask q' _ c];exact al q' c;rw[show q'=runEnd mask i-i+1+(q'-(runEnd mask i-i+1)) by lia,zb6];exact(congrArg (λp=>(advN mask (q'-(runEnd mask i-i+1)) p).j) re).symm▸a5 (q'-(runEnd mask i-i+1)) (by lia)
def zkO:∀(N:Nat)(js:List Nat),(∀e,e<N->e∈js)->N<=js.length
 |0,_,_=>zero_le _| N+1,js,h=>by have h1:=zkO N (js.erase N) λe he=>(List.mem_erase_of_ne (by lia)).mpr (h e (by lia));have h2:=h N (by lia);rw[List.length_erase_of_mem h2]at h1;have:=List.length_pos_of_mem h2;lia
def zoc(o:OI mask ow js hs)(h:js.length<=mask):∃e,e<=mask/\e∉js:=by apply Classical.byContradiction;intro no;have all:∀e,e<mask+1->e∈js:=λe he=>Classical.byContradiction λz=>no ⟨e,by lia,z⟩;have:=zkO (mask+1) js all;lia
def OI.put(o:OI mask ow js hs)(h4:mk4 mask)(h:js.length<=mask)(x):
  ∃j,SetTable.layClean.free mask ow (turns mask) (bits x%(mask+1)) (bits x)=Φ j/\OI mask (ow.setIfInBounds j (Φ js.length)) (js++[j]) (hs++[x]):=by
 let⟨e,e1,e2⟩:=zoc o h;have b1:bits x%(mask+1)<=mask:=by have:=Nat.mod_lt (bits x) (show 0<mask+1 by lia);lia
 have b2:bits x<2^64:=by unfold bits;lia
 let⟨n,n1,n2⟩:=zhd h4 b1 b2 e1;let⟨j,a1,a2,a3,q,a4,a5⟩:=zhB o (turns mask) n _ _ (by unfold turns;lia) b1 b2 (n2▸e2);refine⟨j,a1,by simp[o.sz],by simp[o.len],?_,?_,λi k=>?_,λk y i h1 h2=>?_⟩;rw[nodup_append];exact⟨o.nd,by simp,λa ha b hb=>by cases mem_singleton.mp hb;exact λz=>a3 (z▸ha)⟩;intro i hi;rcases mem_append.mp hi with hi|hi;exact o.le i hi;cases mem_singleton.mp hi;exact a2;have g:(ow.setIfInBounds j (Φ js.length)).getD i Ψ=if i=j then Φ js.length else ow.getD i Ψ:=by rw[Array.getD_eq_getD_getElem?,Array.getElem?_setIfInBounds,Array.getD_eq_getD_getElem?];by_cases c:j=i;subst c;rw[if_pos rfl,if_pos (by rw[o.sz];lia),if_pos rfl];rfl;rw[if_neg c,if_neg (λz=>c z.symm)]
 rw[g];by_cases c:i=j;subst c;rw[if_pos rfl];constructor;intro z;cases z;simp;intro z;by_cases k1:k<js.length;rw[getElem?_append_left k1]at z;exact absurd (mem_of_getElem? z) a3;have:=(Ζ.mp z).1;simp at this;rw[show k=js.length by lia];rw[if_neg c,o.own];by_cases k1:k<js.length;rw[getElem?_append_left k1];rw[getElem?_append_right (by lia),ϝ (by lia)];constructor;intro z;exact nS z;intro z;have:=mem_of_getElem? z;exact absurd (mem_singleton.mp this) c;have up:∀z,z∈js->z∈js++[j]:=λz hz=>mem_append_left _ hz;by_cases k1:k<js.length;rw[getElem?_append_left (by rw[<-o.len];exact k1)]at h1;rw[getElem?_append_left k1]at h2;exact(o.rch k y i h1 h2).mono up;rw[getElem?_append_right (by have:=o.len;lia)]at h1;rw[getElem?_append_right (by lia)]at h2;have z1:=mem_singleton.mp (mem_of_getElem? h1);have z2:=mem_singleton.mp (mem_of_getElem? h2);subst z1 z2;exact⟨q,a4,λq' hq=>up _ (a5 q' hq)⟩
end
def zhv{mask:Nat}(h4:mk4 mask):∀(xs:List Int)(ow:Array (Option Nat))(js:List Nat)(hs:List Int),OI mask ow js hs->js.length+xs.length<=mask+1->
  ∃ow' js',xs.foldl (λ(acc:Option (Array (Option Nat)×Nat)) h=>do
   let (owner,k) <-acc;let j <-SetTable.layClean.free mask owner (turns mask) (bits h%(mask+1)) (bits h)
   pure (owner.setIfInBounds j (Φ k),k+1)) (Φ (ow,js.length))=Φ (ow',js'.length)/\OI mask ow' js' (hs++xs)
 | [],ow,js,hs,o,_=>⟨ow,js,rfl,by rw[append_nil];exact o⟩| x::xs,ow,js,hs,o,h=>by simp![length_cons]at h;let⟨j,e,o'⟩:=o.put h4 (by lia) x;let⟨ow',js',e2,o2⟩:=zhv h4 xs _ _ _ o' (by simp;lia);refine⟨ow',js',?_,by rw[show hs++x::xs=hs++[x]++xs by simp];exact o2⟩;rw[List.foldl_cons,<-e2];congr 1;show(SetTable.layClean.free mask ow (turns mask) (bits x%(mask+1)) (bits x)).bind _=_;rw[e];simp
def zj1{mask}(h4:mk4 mask)(hs)(h:hs.size<=mask+1):∃ow js,SetTable.layClean mask hs=Φ ow/\OI mask ow js hs.toList:=by
 have o0:OI mask (Array.replicate (mask+1) Ψ) [] []:=⟨by simp,rfl,List.nodup_nil,λj h=>(by cases h),λj k=>⟨λz=>(by
  rw[Array.getD_eq_getD_getElem?,Array.getElem?_replicate]at z;split at z<;>exact nS z),λz=>(by exact nS z)⟩,λk h j h1=>(by exact nS h1)⟩
 let⟨ow,js,e,o⟩:=zhv h4 hs.toList _ _ _ o0 (by simpa using h);refine⟨ow,js,?_,o⟩;unfold SetTable.layClean;rw[<-Array.foldl_toList];show Option.map _ (List.foldl _ (Φ (_,0)) _)=_;rw[show(0:Nat)=([]:List Nat).length from rfl];erw [e]
 rfl
section
variable{mask:Nat}{ow:Array (Option Nat)}{js:List Nat}{hs:List Int}
abbrev liv(mask:Nat)(ow:Array (Option Nat)):List (Nat×Nat):=(List.range (mask+1)).filterMap λj=>(ow.getD j Ψ).map (j,·)
def zcl(o:OI mask ow js hs):(j,k)∈liv mask ow↔js[k]?=Φ j:=by
 unfold liv;rw[List.mem_filterMap];constructor;rintro⟨i,_,e⟩;cases c:ow.getD i Ψ with
 |none=>rw[c]at e;exact nS e
 |some k'=>rw[c]at e;cases e;exact(o.own j k).mp c
 intro h;exact⟨j,mem_range.mpr (by have:=o.le j (mem_of_getElem? h);lia),by rw[(o.own j k).mpr h];rfl⟩
def zjV(mask)(ow):(liv mask ow).Pairwise λa b=>a.1<b.1:=by
 unfold liv;rw[List.pairwise_filterMap];refine List.pairwise_lt_range.imp λ{x y} hxy a ha c hc=>?_;cases h1:ow.getD x Ψ with
 |none=>rw[h1]at ha;exact nS ha
 |some u=>
  cases h2:ow.getD y Ψ with
  |none=>rw[h2]at hc;exact nS hc
  |some u2=>rw[h1]at ha;rw[h2]at hc;cases ha;cases hc;exact hxy
def zlE(o:OI mask ow js hs):((liv mask ow).map (·.2)).Perm (List.range js.length):=by refine(List.perm_ext_iff_of_nodup ?_ List.nodup_range).mpr λk=>?_;rw[List.nodup_iff_pairwise_ne,pairwise_map];refine(zjV mask ow).imp_of_mem λ{a b} ha hb h e=>?_;have h1:=(zcl o).mp (show(a.1,a.2)∈_ from ha);have h2:=(zcl o).mp (show(b.1,b.2)∈_ from hb);rw[e,h2]at h1;have:=Option.some.inj h1;lia;rw[mem_map,mem_range];constructor;rintro⟨x,hx,rfl⟩;exact(Ζ.mp ((zcl o).mp (show(x.1,x.2)∈_ from hx))).1;intro hk;exact⟨(js[k],k),(zcl o).mpr (Η hk),rfl⟩
def zmx(o:OI mask ow js hs):z∈(liv mask ow).map (·.1)↔z∈js:=by rw[mem_map];constructor;rintro⟨x,hx,rfl⟩;exact mem_of_getElem? ((zcl o).mp (show(x.1,x.2)∈_ from hx));intro h;let⟨k,hk,e⟩:=ϖ.mp h;exact⟨(z,k),(zcl o).mpr (by rw[Η hk,e]),rfl⟩
end
def zn9{mask fi mv}(h4:mk4 mask)(hs)(h:hs.size*5<mask*3):
  ∃t' ord,SetTable.laid mask fi mv ld pl hs=Φ (t',ord)/\t'.mask=mask/\t'.led=ld/\t'.plain=pl/\t'.moves=mv/\Tt t'/\ord.toList.Perm (List.range hs.size)/\Lies t' (ord.toList.map λk=>hs.toList.getD k 0):=by
 have hm:hs.size<=mask+1:=by rcases h4 with z|z|z|z<;>lia
 let⟨ow,js,e,o⟩:=zj1 h4 hs hm;have jl:js.length=hs.size:=by rw[o.len];simp
 have pm:=zlE o;have pl':(liv mask ow).length=hs.size:=by rw[<-jl,<-length_range (n:=js.length),<-pm.length_eq,length_map]
 refine⟨_,_,by unfold SetTable.laid;rw[e];rfl,rfl,rfl,rfl,rfl,⟨h4,?_,?_,rfl,?_⟩,?_,?_⟩;show Pairwise _ (List.map _ (liv mask ow));rw[pairwise_map];exact zjV mask ow;intro j hj;exact o.le j ((zmx o).mp hj);show((liv mask ow).map (·.1)).toArray.size*5<mask*3;rw[size_toArray,length_map,pl'];exact h;show((liv mask ow).map (·.2)).Perm _;rw[<-jl];exact pm;refine⟨?_,λi j x hj hx=>?_⟩;show(List.map _ ((liv mask ow).map (·.2))).length=((liv mask ow).map (·.1)).toArray.size;simp;have hj:((liv mask ow).map (·.1))[i]?=Φ j:=hj;have hx:(((liv mask ow).map (·.2)).map λk=>hs.toList.getD k 0)[i]?=Φ x:=hx;rw[getElem?_map]at hj;rw[getElem?_map,getElem?_map]at hx;cases el:(liv mask ow)[i]? with
 |none=>rw[el]at hj;exact nS hj
 |some y=>
  rw[el]at hj hx;cases hj;have hx:hs.toList.getD y.2 0=x:=Option.some.inj hx;have mem:=(zcl o).mp (show(y.1,y.2)∈_ from mem_of_getElem? el);have kl:=(Ζ.mp mem).1;have hk:hs.toList[y.2]?=Φ x:=by rw[<-hx,ϗ,Η (by rw[<-o.len];exact kl)];rfl
  exact(o.rch _ x _ hk mem).mono λz hz=>(zmx o).mpr hz
def ins_get{α:Type}{xs:List α}(x)(hp:p<=xs.length)(i):(xs.take p++x::xs.drop p)[i]?=if i<p then xs[i]? else if i=p then Φ x else xs[i-1]?:=by
 by_cases c:i<p;rw[if_pos c,getElem?_append_left (by simp;lia),List.getElem?_take,if_pos c];rw[if_neg c,getElem?_append_right (by simp;lia)];have e:(xs.take p).length=p:=by simp;lia
 rw[e];by_cases d:i=p;subst d;rw[if_pos rfl,Nat.sub_self];rfl;rw[if_neg d,show i-p=(i-p-1)+1 by lia,List.getElem?_cons_succ,List.getElem?_drop];congr 1;lia
structure Tt0(t:SetTable):Prop where
 m4:mk4 t.mask
 rise:Rise t.place
 le:∀j∈t.place.toList,j<=t.mask
 dm:t.dummies = #[]
 sz:t.place.size<=t.mask
def zpS(T:Tt t)(L:Lies t hs)(hj:(advN t.mask n (t.probeStart h)).j∉t.place.toList)(hb:∀n',n'<n->(advN t.mask n' (t.probeStart h)).j∈t.place.toList):
  Tt0 (t.put (advN t.mask n (t.probeStart h)).j).1/\(t.put (advN t.mask n (t.probeStart h)).j).2<=t.place.size/\(t.put (advN t.mask n (t.probeStart h)).j).1.place.size=t.place.size+1/\
  Lies (t.put (advN t.mask n (t.probeStart h)).j).1 (hs.take (t.put (advN t.mask n (t.probeStart h)).j).2++h::hs.drop (t.put (advN t.mask n (t.probeStart h)).j).2):=by
 have oj:(advN t.mask n (t.probeStart h)).j<=t.mask:=by have:=(zeX n (zcB t h)).2.2.2;lia
 generalize ej:(advN t.mask n (t.probeStart h)).j=j at hj oj⊢;have bl:=(zb5 T.rise j).1;have rs:=T.room;have pt:(t.put j).1.place.toList=t.place.toList.take (SetTable.below t.place j)++j::t.place.toList.drop (SetTable.below t.place j):=zcm _ _ _;have ps:(t.put j).1.place.size=t.place.size+1:=by rw[<-length_toList,pt];simp;lia
 have nf:t.place[SetTable.below t.place j]?≠Φ j:=λz=>by let⟨h1,e⟩:=Array.getElem?_eq_some_iff.mp z;exact hj (e▸Array.getElem_mem_toList h1)
 have mem:∀z,z∈(t.put j).1.place.toList↔z=j\/z∈t.place.toList:=λz=>by
  rw[pt,mem_append,mem_cons];have:z∈t.place.toList↔z∈t.place.toList.take (SetTable.below t.place j)\/z∈t.place.toList.drop (SetTable.below t.place j):=by rw[<-mem_append,List.take_append_drop]
  rw[this];constructor;rintro(a|a|a);exact .inr (.inl a);exact .inl a;exact .inr (.inr a);rintro(a|a|a);exact .inr (.inl a);exact .inl a;exact .inr (.inr a)
 have dm:(t.put j).1.dummies = #[]:=by show(if SetTable.has t.dummies j then _ else t.dummies)=_;rw[T.dm];simp[SetTable.has]
 have hl:hs.length=t.place.size:=L.1;refine⟨⟨T.m4,zdq T.rise nf,λz hz=>?_,dm,?_⟩,bl,ps,?_,λi z x hz hx=>?_⟩;rcases(mem z).mp hz with rfl|hz;exact oj;exact T.le z hz
 . rw[ps];show t.place.size+1<=t.mask;rcases T.m4 with z|z|z|z<;>lia
 rw[ps];simp;show min (SetTable.below t.place j) hs.length+(hs.length-SetTable.below t.place j+1)=_;lia;have up:∀z,z∈t.place.toList->z∈(t.put j).1.place.toList:=λz hz=>(mem z).mpr (.inr hz);rw[pt,ins_get j (by simpa using bl)]at hz;have hx:(hs.take (SetTable.below t.place j)++h::hs.drop (SetTable.below t.place j))[i]?=Φ x:=hx;rw[ins_get h (by rw[hl];exact bl)]at hx;have old:∀i',t.place.toList[i']?=Φ z->hs[i']?=Φ x->Rch (t.put j).1 x z:=λi' h1 h2=>by let⟨q,q1,q2⟩:=L.2 i' z x h1 h2;exact⟨q,q1,λq' hq=>up _ (q2 q' hq)⟩
 by_cases c:i<SetTable.below t.place j;rw[if_pos c]at hz hx;exact old i hz hx;rw[if_neg c]at hz hx;by_cases d:i=SetTable.below t.place j;rw[if_pos d]at hz hx;cases hz;cases hx;exact⟨n,ej,λn' hn=>up _ (hb n' hn)⟩;rw[if_neg d]at hz hx;exact old _ hz hx
end R
namespace R
open PySem PySem.Spec PyProof.Rows
section
variable{prog:Χ}{w:ϒ}{K:Type}[DecidableEq K]
structure PKd(knd:HeapKind prog w K):Prop where
 hbv:∀{A:ϔ}{E:Ω->Ι->Prop}{s:Ι}{k:K}{a:Addr}{Q:Bool->Ι->Prop},knd.is s.heap k a->(∀b,Q b s)->wpAny (model prog w) A (hashByValue 8 (.ref a)) Q E s
 cls:∀{A:ϔ}{E:Ω->Ι->Prop}{s:Ι}{k:K}{a:Addr}{Q:Bool->Ι->Prop},knd.is s.heap k a->Q Θ s->wpAny (model prog w) A (ofAClassStatement 8 (.ref a)) Q E s
 stay:∀{h h':Heap}{k:K}{a:Addr},knd.is h k a->(∀b o,h.get? b=Φ o->o.cls=.type "tuple"->h'.get? b=Φ o)->knd.is h' k a
abbrev entP(knd:HeapKind prog w K)(x:K×Addr):Int×Ω:=(knd.hash x.1,.ref x.2)
structure SP(knd:HeapKind prog w K)(h:Heap)(a:Addr)(kas:List (K×Addr))(o:Obj)(es:Array (Int×Ω))(ep:Nat)(t:SetTable):Prop where
 ho:h.get? a=Φ o
 ex:o.ExactSet
 hd:o.data=.set es ep t
 es:es.toList=kas.map (entP knd)
 is:∀x∈kas,knd.is h x.1 x.2
 nd:(kas.map (·.1)).Nodup
 tt:Tt t
 ls:Lies t (kas.map λx=>knd.hash x.1)
 ld:t.led = !byT w
abbrev SetP(knd:HeapKind prog w K)(h:Heap)(a:Addr)(kas:List (K×Addr)):Prop:=∃o es ep t,SP knd h a kas o es ep t
variable{knd:HeapKind prog w K}{A:ϔ}{E:Ω->Ι->Prop}{s:Ι}{a:Addr}{kas:List (K×Addr)}{o:Obj}{es:Array (Int×Ω)}{ep:Nat}{t:SetTable}
def SP.len(S:SP knd h a kas o es ep t):es.size=kas.length:=by rw[<-length_toList,S.es,length_map]
def SP.plc(S:SP knd h a kas o es ep t):t.place.size=kas.length:=by rw[<-S.ls.1,length_map]
def SP.fits(S:SP knd h a kas o es ep t):t.fits es.size=Δ:=by have h1:=S.len;have h2:=S.plc;have h3:=S.tt.room;have h4:=S.tt.dm;unfold SetTable.fits SetTable.fill;rw[h4];simp;lia
def SP.at(S:SP knd s.heap a kas o es ep t){i:Nat}(h:kas[i]?=Φ x):es[i]?=Φ (entP knd x):=by rw[<-ϋ,S.es,getElem?_map,h];rfl
def znf(P:PKd knd)(hR:knd.room A)(hc:knd.is s.heap k c):∀(l:List Ω),(∀v∈l,∃k' c',v=Ω.ref c'/\knd.is s.heap k' c')->∀{Q:Bool->Ι->Prop},Q Θ s->wpAny (model prog w) A (searchCouldBeSeen (.ref c) l) Q E s:=by intro l hl Q q;unfold searchCouldBeSeen;refine Ξ (ϛ _ (λrest r s'=>r.1=Ψ/\s'=s/\∀v∈rest,∃k' c',v=Ω.ref c'/\knd.is s.heap k' c') _ ?_ ?_ _ _ ⟨rfl,rfl,hl⟩);rintro v rest r s' ⟨hr,rfl,hall⟩;let⟨k',c',rfl,hc'⟩:=hall v (by simp);have nx:∀v∈rest,∃k' c',v=Ω.ref c'/\knd.is s'.heap k' c':=λv hv=>hall v (by simp[hv]);by_cases e:(c==c')=Δ;simp![e,Bool.true_or,if_true];exact Λ ⟨rfl,rfl,nx⟩;simp![e,carriedByValue,Bool.false_and,Bool.or_self,if_false,Κ];refine Ξ (knd.quiet hc ?_);simp![ώ,Κ,if_false];refine Ξ (knd.quiet hc' ?_);simp![ώ,Κ,if_false];refine Ξ (P.cls hc ?_);simp![Κ,if_false];refine Ξ (P.cls hc' ?_);simp![Κ,if_false];exact Λ ⟨rfl,rfl,nx⟩;rintro⟨r1,r2⟩ s' ⟨hr,rfl,_⟩;simp only at hr;subst hr;exact Λ q
end
section
variable{prog:Χ}{w:ϒ}{K:Type}[DecidableEq K]{knd:HeapKind prog w K}{A:ϔ}{E:Ω->Ι->Prop}{s:Ι}{a c:Addr}{kas:List (K×Addr)}{o:Obj}{es:Array (Int×Ω)}{ep:Nat}{t:SetTable}{k:K}
abbrev Psd(kas:List (K×Addr))(t:SetTable)(k:K)(h:Int)(n:Nat):Prop:=∀n',n'<n->∃(i:Nat) (x:K×Addr),t.place.toList[i]?=Φ (advN t.mask n' (t.probeStart h)).j/\kas[i]?=Φ x/\x.1≠k
def zlb(h:Rise xs){i i' j:Nat}(h1:xs.toList[i]?=Φ j)(h2:xs.toList[i']?=Φ j):i=i':=by let⟨a1,b1⟩:=Ζ.mp h1;let⟨a2,b2⟩:=Ζ.mp h2;have lt:∀x y (hx:x<xs.toList.length) (hy:y<xs.toList.length),x<y->xs.toList[x]<xs.toList[y]:=λx y hx hy hxy=>List.pairwise_iff_getElem.mp h x y hx hy hxy;rcases Nat.lt_trichotomy i i' with z|z|z;have:=lt i i' a1 a2 z;lia;exact z;have:=lt i' i a2 a1 z;lia
def zqp(S:SP knd s.heap a kas o es ep t)(ps:Psd kas t k (knd.hash k) n)(hj:(advN t.mask n (t.probeStart (knd.hash k))).j∉t.place.toList):k∉kas.map (·.1):=by
 intro hk;let⟨x,hx,rfl⟩:=mem_map.mp hk;let⟨i,hi⟩:=List.mem_iff_getElem?.mp hx;have hlt:=(Ζ.mp hi).1;have hlp:i<t.place.size:=by rw[S.plc];exact hlt
 have hp:t.place.toList[i]?=Φ t.place[i]:=by rw[ϋ,ϐ hlp]
 let⟨q,q1,q2⟩:=S.ls.2 i _ (knd.hash x.1) hp (by rw[getElem?_map,hi];rfl);rcases Nat.lt_trichotomy q n with z|z|z;let⟨i',x',p1,p2,p3⟩:=ps q z;rw[q1]at p1;have:=zlb S.tt.rise hp p1;subst this;rw[hi]at p2;cases p2;exact p3 rfl;subst z;exact hj (q1▸mem_of_getElem? hp);exact hj (q2 n z)
def zm1(S:SP knd s.heap a kas o es ep t)(h):∀v∈(es.filter (·.1==h)).toList.map (·.2),∃k' c',v=Ω.ref c'/\knd.is s.heap k' c':=λv hv=>by let⟨e,he,rfl⟩:=mem_map.mp hv;rw[Array.toList_filter]at he;have:=(mem_filter.mp he).1;rw[S.es]at this;let⟨x,hx,rfl⟩:=mem_map.mp this;exact⟨x.1,x.2,rfl,S.is x hx⟩
def zhb(P:PKd knd)(S:SP knd s.heap a kas o es ep t)(hR:knd.room A)(hc:knd.is s.heap k c)(he:(advN t.mask ne (t.probeStart (knd.hash k))).j∉t.place.toList)(q1:k∈kas.map (·.1)->∀r,Q (.there r) s)(q2:∀n,Psd kas t k (knd.hash k) n->(advN t.mask n (t.probeStart (knd.hash k))).j∉t.place.toList->Q (.free (advN t.mask n (t.probeStart (knd.hash k))).j Θ) s):
  ∀(f n:Nat)(st:Option SetTable.Probe),ne-n<f->n<=ne->st.getD (t.probeStart (knd.hash k))=advN t.mask n (t.probeStart (knd.hash k))->Psd kas t k (knd.hash k) n->wpAny (model prog w) A (setSearchFrom a (.ref c) (knd.hash k) Δ f st) Q E s
 |0,n,st,hf,_,_,_=>by lia| f+1,n,st,hf,hn,hst,ps=>by
  have T:=S.tt;unfold setSearchFrom;refine Ξ (Ϡ S.ho S.hd S.fits ?_);dsimp only;have gw:t.gaveWay=Θ:=by unfold SetTable.gaveWay;rcases T.m4 with z|z|z|z<;>rw[z]<;>rfl
  rw[gw,hst];simp![Κ,if_false];have okn:=zeX n (zcB t (knd.hash k));have dmn:∀m,(advN t.mask m (t.probeStart (knd.hash k))).dummy=Ψ:=λm=>by induction m with|zero=>rfl|succ m ih=>rw[zgn,zmN,ih]
  have add:∀m,advN t.mask m (advN t.mask n (t.probeStart (knd.hash k)))=advN t.mask (n+m) (t.probeStart (knd.hash k)):=λm=>(zb6 _ _ _ _).symm;have more:∀(ha:Nat->Int),(∀i,ha i=(es[i]?.map (·.1)).getD 0)->∀m,(∀k',k'<m->∃(i:Nat) (hi:i<t.place.size),t.place[i]=(advN t.mask k' (advN t.mask n (t.probeStart (knd.hash k)))).j/\ha i≠knd.hash k)->Psd kas t k (knd.hash k) (n+m):=λha hh m b n' hn'=>by
   by_cases z:n'<n;exact ps n' z;let⟨i,hi,e1,e2⟩:=b (n'-n) (by lia);rw[add,show n+(n'-n)=n' by lia]at e1;have hl:i<kas.length:=by rw[<-S.plc];exact hi
   have hx:=Η hl;refine⟨i,_,?_,hx,λz=>e2 ?_⟩;rw[ϋ,ϐ hi,e1];rw[hh,S.at hx];show knd.hash _=_;rw[z]
  split;rename_i met heq;have M:∃ha:Nat->Int,(∀i,ha i=(es[i]?.map (·.1)).getD 0)/\Mt1 t ha (knd.hash k) (advN t.mask n (t.probeStart (knd.hash k))) met:=by let⟨m',e',M⟩:=zfF T _ (knd.hash k) okn (dmn n);have:=Option.some.inj (e'.symm.trans heq);rw[this]at M;exact⟨_,λi=>rfl,M⟩
  let⟨ha,hh,M⟩:=M;cases M with
  |fr m e b=>dsimp only;refine Λ ?_;rw[add]at e⊢;exact q2 _ (more ha hh m b) e| ca m i hi e eh b=>
   dsimp only;have hl:i<kas.length:=by rw[<-S.plc];exact hi
   have hx:=Η hl;have ps':=more ha hh m b;have isx:=S.is _ (Ϙ hl);have lne:n+m<ne:=by
    apply Classical.byContradiction;intro z;by_cases z2:ne<n;lia;by_cases z3:ne<n+m;let⟨i',hi',e1,_⟩:=b (ne-n) (by lia);rw[add,show n+(ne-n)=ne by lia]at e1;exact he (e1▸Array.getElem_mem_toList hi');have:ne=n+m:=by lia
    rw[add,<-this]at e;exact he (e▸Array.getElem_mem_toList hi)
   rw[S.at hx];dsimp only[entP];have tl:∀{X:Sem SetFound},X=(do
     let equal <-holding [Ω.ref kas[i].2] (eqBool (Ω.ref kas[i].2) (Ω.ref c));let __x <-setState a
     if(Δ&&equal)=Δ then pure (SetFound.there Ψ)
      else
       match __x.2.snd.sameMemory t.moves t.mask with
       |some same=>
        match if same=Δ then __x.2.snd.slot (advN t.mask m (advN t.mask n (t.probeStart (knd.hash k)))).j else SetTable.Slot.empty with
        |SetTable.Slot.live i'=>
         match __x.fst[i']? with
         | some (fst,y')=>do
           let __do_lift <-isSame y' (Ω.ref kas[i].2);let still <-pure (if __do_lift=Δ then Φ i' else Ψ)
           match still with
            | none=>do
              rule "set.search.anew"
              setSearchFrom a (Ω.ref c) (knd.hash k) Δ f Ψ
            |some i'=>
             if equal=Δ then pure (SetFound.there (Φ i'))
             else setSearchFrom a (Ω.ref c) (knd.hash k) Δ f (Φ (advN t.mask (m+1) (advN t.mask n (t.probeStart (knd.hash k)))))
         | none=>do
           let still <-pure Ψ
           match still with
            | none=>do
              rule "set.search.anew"
              setSearchFrom a (Ω.ref c) (knd.hash k) Δ f Ψ
            |some i'=>
             if equal=Δ then pure (SetFound.there (Φ i'))
             else setSearchFrom a (Ω.ref c) (knd.hash k) Δ f (Φ (advN t.mask (m+1) (advN t.mask n (t.probeStart (knd.hash k)))))
        | x=>do
          let still <-pure Ψ
          match still with
           | none=>do
             rule "set.search.anew"
             setSearchFrom a (Ω.ref c) (knd.hash k) Δ f Ψ
           |some i'=>
            if equal=Δ then pure (SetFound.there (Φ i'))
            else setSearchFrom a (Ω.ref c) (knd.hash k) Δ f (Φ (advN t.mask (m+1) (advN t.mask n (t.probeStart (knd.hash k)))))
       |x=>unsupported "set.changed-during-lookup:is-the-new-block-at-the-old-address")->wpAny (model prog w) A X Q E s:=by
    rintro X rfl;refine Ξ (ϙ (knd.eqBool hR isx hc ?_));refine Ξ (Ϡ S.ho S.hd S.fits ?_);dsimp only;by_cases ke:kas[i].1=k;rw[decide_eq_true ke];simp![Bool.and_self,if_true];exact Λ (q1 (mem_map.mpr ⟨_,Ϙ hl,ke⟩) _);rw[decide_eq_false ke];simp![Bool.and_false,Κ,if_false];have sm:t.sameMemory t.moves t.mask=Φ Δ:=by unfold SetTable.sameMemory;simp
    rw[sm];dsimp only;simp![if_true];rw[<-e,zft T hi];dsimp only;rw[S.at hx];dsimp only[entP];refine Ξ (wpAny_isSame_ref_self ?_);simp![if_true];refine Ξ (Λ ?_);dsimp only;refine zhb P S hR hc he q1 q2 f (n+m+1) _ (by lia) (by lia) ?_ ?_;show advN t.mask (m+1) (advN t.mask n _)=_;rw[add];rfl;intro n' hn';by_cases z:n'<n+m;exact ps' n' z;have:n'=n+m:=by lia
    subst this;refine⟨i,_,?_,hx,ke⟩;rw[ϋ,ϐ hi,e,add]
   split;refine Ξ (znf P hR hc _ (zm1 S _) ?_);simp![Κ,if_false];exact tl rfl;exact tl rfl
  rename_i heq;let⟨m',e',M⟩:=zfF T _ (knd.hash k) okn (dmn n);exact(heq _ e').elim
def zhk{h:Heap}(ho:h.get? a=Φ o)(hd:o.data=.set es ep t):(h.update a (Obj.putSet es' t')).get? a=Φ {o with data:=.set es' (ep+1) t'}:=by have:=Heap.get?_update_self (Obj.putSet es' t') ho (by rw[putSet_of es' t' hd];rfl);rw[putSet_of es' t' hd]at this;exact this
def ziu(h4:mk4 mask)(h1:mask*3<=(n+1)*5)(h2:n*5<mask*3)(h3:n<300):mk4 (SetTable.sizeAbove (SetTable.grown (n+1))-1)/\(n+1)*5<(SetTable.sizeAbove (SetTable.grown (n+1))-1)*3/\SetTable.sizeAbove (SetTable.grown (n+1))<=sizeLine:=by
 rcases h4 with rfl|rfl|rfl|rfl;have:n=4:=by lia
 subst this;exact⟨.inr (.inl (by decide)),by decide,by rw[ϑ];decide⟩;have:n=18:=by lia
 subst this;exact⟨.inr (.inr (.inl (by decide))),by decide,by rw[ϑ];decide⟩;have:n=76:=by lia
 subst this;exact⟨.inr (.inr (.inr (by decide))),by decide,by rw[ϑ];decide⟩;lia
def zc1{α:Type}{xs:Array α}:∀{ord:List Nat},(∀i∈ord,i<xs.size)->∀(d:α),ord.filterMap (λi=>xs[i]?)=ord.map λi=>xs.toList.getD i d
 | [],_,_=>rfl| i::ord,h,d=>by have hi:=h i (by simp);rw[ϊ,List.filterMap_cons_some (b:=xs.toList.getD i d),zc1 λj hj=>h j (by simp[hj])];rw[ϗ,ϋ,ϐ hi];rfl
def zsp(P:PKd knd)(S0:SetP knd s.heap a kas)(hR:knd.room A)(hc:knd.is s.heap k c)(hn:kas.length<300)(q1:k∈kas.map (·.1)->Q Θ s)(q2:k∉kas.map (·.1)->∀h' kas',Heap.SameBut a s.heap h'->SetP knd h' a kas'->kas'.Perm (kas++[(k,c)])->Q Δ {s with heap:=h'}):
  wpAny (model prog w) A (setAddHashed a (.ref c) (knd.hash k)) Q E s:=by
 let⟨o,es,ep,t,S⟩:=S0;have T:=S.tt;unfold setAddHashed setAddHashedIn;refine ϙ (Ξ (Ϡ S.ho S.hd S.fits ?_));dsimp only;rw[show byScan (.ref c) es=Θ from rfl];simp![Κ,if_false];let⟨e,e1,e2⟩:=zfs T;let⟨ne,_,n2⟩:=zdn T.m4 (zcB t (knd.hash k)) e1;have ne1:ne<=99999\/True:=.inr trivial;let⟨ne,n1,n2⟩:=zdn T.m4 (zcB t (knd.hash k)) e1;have mle:t.mask<=511:=by rcases T.m4 with z|z|z|z<;>lia
 refine Ξ (zhb P S hR hc (ne:=ne) (n2▸e2) (λhk r=>?_) (λn ps hj=>?_) 100000 0 Ψ (by lia) (zero_le _) rfl λn' z=>by lia);exact Λ (q1 hk);have hk:=zqp S ps hj;dsimp only;refine Ξ (Ϡ S.ho S.hd S.fits ?_);dsimp only;let⟨P1,P2,P3,P4⟩:=zpS T S.ls hj λn' hn'=>by let⟨i,x,p1,_⟩:=ps n' hn';exact mem_of_getElem? p1
 have ldp:(t.put (advN t.mask n (t.probeStart (knd.hash k))).j).1.led=t.led:=rfl;have mkp:(t.put (advN t.mask n (t.probeStart (knd.hash k))).j).1.mask=t.mask:=rfl;generalize t.put (advN t.mask n (t.probeStart (knd.hash k))).j=tp at P1 P2 P3 P4 ldp mkp⊢;let⟨t1,p⟩:=tp;dsimp only at P1 P2 P3 P4 ldp mkp⊢;have ei:(SetTable.insertAt es p (knd.hash k,Ω.ref c)).toList=(kas.take p++(k,c)::kas.drop p).map (entP knd):=by rw[zcm,S.es,map_append,ϊ,List.map_take,List.map_drop];rfl
 have pk:(kas.take p++(k,c)::kas.drop p).Perm (kas++[(k,c)]):=by have h1:(kas.take p++(k,c)::kas.drop p).Perm ((k,c)::(kas.take p++kas.drop p)):=List.perm_middle;rw[List.take_append_drop]at h1;exact h1.trans (List.perm_append_singleton _ _).symm
 generalize hkp:kas.take p++(k,c)::kas.drop p=kp at ei pk;have lk:kp.length=kas.length+1:=by rw[pk.length_eq];simp
 have nd:(kp.map (·.1)).Nodup:=by rw[(pk.map (·.1)).nodup_iff,map_append,nodup_append];exact⟨S.nd,by simp,λx hx y hy=>by simp at hy;subst hy;exact λz=>hk (z▸hx)⟩
 have L1:Lies t1 (kp.map λx=>knd.hash x.1):=by rw[<-hkp,map_append,ϊ,List.map_take,List.map_drop];exact P4
 have isp:∀h',Heap.SameBut a s.heap h'->∀x∈kp,knd.is h' x.1 x.2:=λh' sb x hx=>by
  refine P.stay (h:=s.heap) ?_ λb o' e1 e2=>?_
  case refine_2=>rw[sb.2 b λz=>?_];exact e1;subst z;rw[S.ho]at e1;cases e1;exact absurd (S.ex.1.symm.trans e2) (by decide)
  rcases mem_append.mp (pk.mem_iff.mp hx) with z|z;exact S.is x z;cases mem_singleton.mp z;exact hc
 have es1:(SetTable.insertAt es p (knd.hash k,Ω.ref c)).size=kas.length+1:=by rw[<-length_toList,ei,length_map,lk]
 have dm1:t1.dummies = #[]:=P1.dm;have sl:kas.length+1<=sizeLine:=by rw[ϑ];lia
 have tail:∀t2:SetTable,t2.mask=t1.mask->t2.place=t1.place->t2.dummies=t1.dummies->t2.led=t1.led->wpAny (model prog w) A (do
   storeSet a (SetTable.insertAt es p (knd.hash k,Ω.ref c)) t2
   if(!Θ&&t2.tooFull)=Δ then do
    setRelay a (SetTable.grown (es.size+1))
    pure Δ
   else pure Δ) Q E s:=λt2 m2 pl2 d2 ld2=>by
  have L2:Lies t2 (kp.map λx=>knd.hash x.1):=by
   have:∀h j,Rch t2 h j↔Rch t1 h j:=λh j=>by unfold Rch;rw[zmJ,zmJ,m2,pl2]
   exact⟨by rw[pl2];exact L1.1,λi j h e1 e2=>(this h j).mpr (L1.2 i j h (by rw[<-pl2];exact e1) e2)⟩
  refine Ξ (wpAny_storeSet_of S.ho S.hd ?_ (by rw[es1];exact sl));have g1:=zhk (es':=SetTable.insertAt es p (knd.hash k,Ω.ref c)) (t':=t2) S.ho S.hd;have sb:=Heap.SameBut.update s.heap a (Obj.putSet (SetTable.insertAt es p (knd.hash k,Ω.ref c)) t2);have rm:=T.room;have plc:=S.plc;by_cases full:t2.tooFull=Δ;rw[full];simp![Bool.not_false,Bool.and_self,if_true];refine Ξ ?_;unfold setRelay;have fits1:t2.fits (SetTable.insertAt es p (knd.hash k,Ω.ref c)).size=Δ:=by unfold SetTable.fits SetTable.fill;rw[d2,dm1,pl2,m2,P3,es1,plc];have:=P1.sz;simp;lia
  refine Ξ (Ϡ g1 rfl fits1 ?_);dsimp only;rw[S.len];have fl:t.mask*3<=(kas.length+1)*5:=by unfold SetTable.tooFull SetTable.fill at full;rw[d2,dm1,pl2,m2,P3,plc,mkp]at full;simpa using full
  let⟨G1,G2,G3⟩:=ziu T.m4 fl (by rw[<-plc];exact rm) hn;rw[if_neg (by lia)];let⟨t3,ord,l1,l2,l3,l4,l5,l6,l7,l8⟩:=zn9 (fi:=t2.finger) (mv:=t2.movedTo (SetTable.sizeAbove (SetTable.grown (kas.length+1))-1)) (ld:=t2.led) (pl:=t2.plain) G1 ((SetTable.insertAt es p (knd.hash k,Ω.ref c)).map (·.1)) (by rw[Array.size_map,es1];exact G2);rw[Array.size_map,es1]at l7;have re:t2.relaid ((SetTable.insertAt es p (knd.hash k,Ω.ref c)).map (·.1)) (SetTable.grown (kas.length+1))=Φ (t3,ord):=l1;rw[re];have ol:∀i∈ord.toList,i<(SetTable.insertAt es p (knd.hash k,Ω.ref c)).size:=λi hi=>by rw[es1];exact mem_range.mp (l7.mem_iff.mp hi)
  have fm:(ord.filterMap λi=>(SetTable.insertAt es p (knd.hash k,Ω.ref c))[i]?).toList=ord.toList.map λi=>(SetTable.insertAt es p (knd.hash k,Ω.ref c)).toList.getD i (entP knd (k,c)):=by rw[Array.toList_filterMap];exact zc1 ol _
  have fs:(ord.filterMap λi=>(SetTable.insertAt es p (knd.hash k,Ω.ref c))[i]?).size=(SetTable.insertAt es p (knd.hash k,Ω.ref c)).size:=by rw[<-length_toList,fm,length_map,l7.length_eq,length_range,es1]
  refine Ξ (wpAny_of_eq (a:=(ord.filterMap λi=>(SetTable.insertAt es p (knd.hash k,Ω.ref c))[i]?,t3)) (if_neg (by rw[fs];simp)) ?_);dsimp only;refine wpAny_storeSet_of g1 rfl ?_ (by rw[fs,es1];exact sl);have g2:=zhk (es':=ord.filterMap λi=>(SetTable.insertAt es p (knd.hash k,Ω.ref c))[i]?) (t':=t3) g1 rfl;have sb2:=sb.trans (Heap.SameBut.update _ a (Obj.putSet (ord.filterMap λi=>(SetTable.insertAt es p (knd.hash k,Ω.ref c))[i]?) t3));have kq:(ord.toList.map λi=>kp.getD i (k,c)).Perm kp:=by
   have h1:=l7.map λi=>kp.getD i (k,c);have h2:(List.range (kas.length+1)).map (λi=>kp.getD i (k,c))=kp:=by apply List.ext_getElem;simp[lk];intro i g1 g2;simp[g2]
   rw[h2]at h1;exact h1
  refine Λ (q2 hk _ (ord.toList.map λi=>kp.getD i (k,c)) sb2 ⟨_,_,_,_,g2,S.ex,rfl,?_,λx hx=>isp _ sb2 x (kq.mem_iff.mp hx),?_,l6,?_,?_⟩ (kq.trans pk));rw[fm,ei,map_map];refine Ϣ λi hi=>?_;have:=ol i hi;simp[ϗ,lk,show i<kas.length+1 by rw[<-es1];exact this];exact((kq.map (·.1)).nodup_iff).mpr nd;have:(ord.toList.map λi=>((SetTable.insertAt es p (knd.hash k,Ω.ref c)).map (·.1)).toList.getD i 0)=(ord.toList.map λi=>kp.getD i (k,c)).map λx=>knd.hash x.1:=by rw[map_map];refine Ϣ λi hi=>?_;have:=ol i hi;rw[Array.toList_map,ei,map_map];simp[ϗ,lk,show i<kas.length+1 by rw[<-es1];exact this,entP]
  rw[<-this];exact l8;rw[l3,ld2,ldp,S.ld];have full:t2.tooFull=Θ:=by simpa using full
  rw[full];simp![Bool.and_false,Κ,if_false];refine Λ (q2 hk _ kp sb ⟨_,_,_,_,g1,S.ex,rfl,ei,isp _ sb,nd,⟨by rw[m2];exact P1.m4,by rw[pl2];exact P1.rise,by rw[pl2,m2];exact P1.le,by rw[d2];exact dm1,?_⟩,L2,by rw[ld2,ldp,S.ld]⟩ pk);unfold SetTable.tooFull SetTable.fill at full;rw[d2,dm1]at full;simpa using full
 split;exact Ξ (P.hbv hc λb=>tail _ (by split<;>rfl) (by split<;>rfl) (by split<;>rfl) (by split<;>rfl));exact Ξ (Λ (tail _ rfl rfl rfl rfl))
end
end R
section
set_option maxHeartbeats 8000000
namespace R
open PySem PySem.Spec PyProof.Rows
section
variable{prog:Χ}{w:ϒ}{K:Type}[DecidableEq K]{knd:HeapKind prog w K}{A:ϔ}{R:Result->Ι->Prop}{I:Addr}{fp wr:List Addr}{G:Array GenState->Array GenState->Prop}{n:Nat}{P:Nat->Ω->Prop}{St:Nat->Ι->Prop}
structure Mets(xs:List (K×Addr))(kas:List (K×Addr)):Prop where
 sub:∀x∈kas,x∈xs
 all:∀x∈xs,x.1∈kas.map (·.1)
def SetP.at(Pk:PKd knd)(S:SetP knd h a kas)(k1:∀o,h.get? a=Φ o->h'.get? a=Φ o)(k2:∀b o,h.get? b=Φ o->o.cls=.type "tuple"->h'.get? b=Φ o):SetP knd h' a kas:=by let⟨o,es,ep,t,S⟩:=S;exact⟨o,es,ep,t,k1 o S.ho,S.ex,S.hd,S.es,λx hx=>Pk.stay (S.is x hx) k2,S.nd,S.tt,S.ls,S.ld⟩
def zqz(Pk:PKd knd)(hR:knd.room A.in1)(W:WalksS prog w A.in1 I fp wr G n P St)(a)(ha:a∉fp)(xs)(hx:xs.length=n)(hv:∀i v,P i v->∃x,xs[i]?=Φ x/\v=.ref x.2)(hI:∀b∈wr,∀i s,St i s->∀o,s.heap.get? b=Φ o->o.cls≠.type "tuple")(hb:n<300):
  ∀(m i:Nat)(s:Ι)(kas:List (K×Addr)),n-i=m->i<=n->St i s->SetP knd s.heap a kas->Mets (xs.take i) kas->(∀x∈xs,knd.is s.heap x.1 x.2)->kas.length<=i->
   (∀s' kas',Moved (a::wr) G s s'->SetP knd s'.heap a kas'->Mets xs kas'->(∀b o,s.heap.get? b=Φ o->o.cls=.type "tuple"->s'.heap.get? b=Φ o)->kas'.length<=n->R (.ok (.ret .none)) s')->
   codeAny (model prog w) A (.builtin "set.update.loop" ⟨[.ref a,.ref I],[]⟩) R s:=by
 have aw:a∉wr:=λz=>ha (W.sub _ z);have up:∀b∈wr,b∈a::wr:=λb z=>Ρ _ z;have tup:∀{i:Nat}{s s':Ι},St i s->Moved wr G s s'->∀b o,s.heap.get? b=Φ o->o.cls=.type "tuple"->s'.heap.get? b=Φ o:=λst mv b o e c=>mv.heap b o (λz=>hI b z _ _ st o e c) e;intro m;induction m with
 |zero=>
  intro i s kas hm hi st hS hM hX hl fin;obtain rfl:i=n:=by lia
  refine Ϟ F.entry_set_update_loop ?_;rw[Ϛ F.plain_set_update_loop _];show wpAny _ A.in1 (pyNext (.ref I)>>=_) _ _ s;refine Ξ (W.done s _ _ st λs' mv=>?_);show wpAny _ A.in1 (ret Ω.none) _ _ s';rw[<-hx,List.take_length]at hM;exact Λ (fin s' kas (mv.mono up) (hS.at Pk (λo e=>mv.heap a o aw e) (tup st mv)) hM (tup st mv) hl)
 |succ m ih=>
  intro i s kas hm hi st hS hM hX hl fin;refine Ϟ F.entry_set_update_loop ?_;rw[Ϛ F.plain_set_update_loop _];show wpAny _ A.in1 (pyNext (.ref I)>>=_) _ _ s;refine Ξ (W.item i s _ _ (by lia) st λv s' hP st' mv=>?_);let⟨x,ex,rfl⟩:=hv i v hP;have hS':=hS.at (h':=s'.heap) Pk (λo e=>mv.heap a o aw e) (tup st mv);have hX':∀x∈xs,knd.is s'.heap x.1 x.2:=λy hy=>Pk.stay (hX y hy) (tup st mv);have hx':=hX' x (mem_of_getElem? ex);have tk:xs.take (i+1)=xs.take i++[x]:=by rw[List.take_add_one,ex];rfl
  show wpAny _ A.in1 (holding [Ω.ref x.2] (setAdd a (.ref x.2))>>=_) _ _ s';refine Ξ (ϙ ?_);unfold setAdd;refine ϙ (Ξ (knd.pyHash hR hx' ?_));refine zsp (s:={s' with toks:=s'.toks+knd.draws x.1}) Pk hS' hR hx' (by lia) (λhk=>?_) λhk h' kas' sb hS2 pm=>?_;refine Λ ⟨plainId_quiet F.plain_set_update_loop _,ih (i+1) _ kas (by lia) (by lia) (W.frame _ s' _ _ st' (Nat.le_add_right _ _) λb hb o e=>e) hS' ?_ hX' (by lia) λs2 kas2 mv2 hS4 hM4 tp l4=>?_⟩;rw[tk];exact⟨λy hy=>mem_append_left _ (hM.sub y hy),λy hy=>by rcases mem_append.mp hy with z|z;exact hM.all y z;cases mem_singleton.mp z;exact hk⟩;refine fin s2 kas2 (Moved.trans W.gtrans ((mv.mono up).then_heap (Nat.le_add_right _ _) λb o hb e=>e) mv2) hS4 hM4 (λb o e c=>tp b o (tup st mv b o e c) c) l4;have tb:∀b o,s'.heap.get? b=Φ o->o.cls=.type "tuple"->h'.get? b=Φ o:=λb o e c=>by rw[sb.2 b λz=>?_];exact e;subst z;let⟨o',_,_,_,S'⟩:=hS';rw[S'.ho]at e;cases e;exact absurd (S'.ex.1.symm.trans c) (by decide)
  refine Λ ⟨plainId_quiet F.plain_set_update_loop _,ih (i+1) _ kas' (by lia) (by lia) (W.frame _ s' _ _ st' (Nat.le_add_right _ _) λb hb o e=>?_) hS2 ?_ (λy hy=>Pk.stay (hX' y hy) tb) (by rw[pm.length_eq];simp;lia) λs2 kas2 mv2 hS4 hM4 tp l4=>?_⟩;rw[sb.2 b λz:b=a=>ha (z▸hb)];exact e;rw[tk];refine⟨λy hy=>?_,λy hy=>?_⟩;rcases mem_append.mp (pm.mem_iff.mp hy) with z|z;exact mem_append_left _ (hM.sub y z);exact mem_append_right _ (by cases mem_singleton.mp z;exact mem_singleton.mpr rfl);rw[(pm.map (·.1)).mem_iff,map_append];rcases mem_append.mp hy with z|z;exact mem_append_left _ (hM.all y z);cases mem_singleton.mp z;exact mem_append_right _ (by simp);refine fin s2 kas2 (Moved.trans W.gtrans ((mv.mono up).then_heap (Nat.le_add_right _ _) λb o hb e=>?_) mv2) hS4 hM4 (λb o e c=>tp b o (tb b o (tup st mv b o e c) c) c) l4;rw[sb.2 b λz:b=a=>hb (by rw[z];exact Υ)];exact e
end
section
variable{prog:Χ}{w:ϒ}{A:ϔ}{E:Ω->Ι->Prop}{s:Ι}
def zi4{K}[DecidableEq K]{knd:HeapKind prog w K}(Pk:PKd knd)(hR:∀B:ϔ,B.units<=A.units+20->knd.room B){xs}(hc:A.handled=Ψ)(hl:s.heap.IsList l its)(hx:xs.length=its.size)(hi:∀(i:Nat)(v:Ω),its[i]?=Φ v->∃x,xs[i]?=Φ x/\v=Ω.ref x.2)(hX:∀x∈xs,knd.is s.heap x.1 x.2)(hb:its.size<300)(fin:∀(g:Heap)(tk:Nat)(kas:List (K×Addr)),SetP knd g s.heap.objs.size kas->Mets xs kas->kas.length<=its.size->
   (∀b o,b<s.heap.objs.size->s.heap.get? b=Φ o->g.get? b=Φ o)->Q (.ref s.heap.objs.size) {s with heap:=g,toks:=tk}):wpAny (model prog w) A (call (.type "set") [.ref l]) Q E s:=by
 let⟨mc,mt,hmro⟩:=F.called_set.mro;have c1:=F.called_set.made;have c2:=F.called_set.sub;refine wpAny_call (codeAny_of_tree ?_);show wpAny _ _ (callAny (.type "set") _) _ _ _;refine Λ ⟨Code.quiet_builtin _ (by decide +kernel),Ϟ F.entry_type_call ?_⟩;rw[ϔ.under_plain (weight_type_call_type "set" [.ref l] []) rfl];have c3:=F.called_set.notType;have c4:=F.called_set.canCreate;have c5:=F.typeCall_set_1 (.ref l)
 repeat (any_goals (first|assumption|wp_step))
 refine ϩ (zqq (.ref l) (E:=E) (Q₁:=λo z=>o=.ref s.heap.objs.size/\z={s with heap:=s.heap.push (sD0 (!byT w))}) ⟨rfl,rfl⟩) λr z hr=>?_;cases r with
 |error e=>exact hr| ok fl=>
  cases fl with
  |ret o=>
   let⟨rfl,rfl⟩:=hr;have g0:(s.heap.push (sD0 (!byT w))).get? s.heap.objs.size=Φ (sD0 (!byT w)):=Μ _ rfl;have g1:Ι.TypeIs {s with heap:=s.heap.push (sD0 (!byT w))} (.ref s.heap.objs.size) "set":=⟨_,g0,rfl⟩;have c6:=F.called_set.init.lookup;have c7:=F.called_set.init.bind (.ref s.heap.objs.size)
   repeat (any_goals (first|assumption|wp_step))
   refine ϩ (codeAny_call_builtin (R:=wants (λr z=>r=.none/\∃g tk,z={s with heap:=g,toks:=tk}/\
    (∃kas,SetP knd g s.heap.objs.size kas/\Mets xs kas/\kas.length<=its.size)/\
    (∀b o,b<s.heap.objs.size->s.heap.get? b=Φ o->g.get? b=Φ o)) E) F.called_set.init.plain F.entry_set_init (check_set_init_1 g1 ?_)) λr2 z2 hr2=>?_
   . let⟨⟨oc,od,oda,osl⟩,ho,hcl,nl,hda⟩:=id hl;simp only at hcl hda;subst hcl hda;have ho':(s.heap.push (sD0 (!byT w))).get? l=Φ {cls:=.type "list",dict:=od,data:=.seq its nl,slots:=osl}:=Α _ ho;have d1:=F.sub_list_set;have d2:=F.sub_list_frozenset;have d3:(Ω.type "list" == Ω.type "dict")=Θ:=by decide
     have ht1:(s.heap.push (sD0 (!byT w))).IsList l its:=⟨_,ho',rfl,nl,rfl⟩;unfold Builtin.«set.__init__» noKeywords Builtin.Frozenset.updateFrom;generalize hPI:pyIter=PI
     wp_walk
     subst hPI;refine wpAny_pyIter_list ht1 ?_;refine Ξ (wpAny_runValue ?_);have tl:l<s.heap.objs.size:=Ν ho;have tn:l≠(s.heap.push (sD0 (!byT w))).objs.size:=by rw[ϓ];exact ne_of_lt (ϥ tl)
     have sn:s.heap.objs.size∉[(s.heap.push (sD0 (!byT w))).objs.size,l]:=by rw[ϓ];simp![mem_cons,not_mem_nil,or_false,not_or];exact⟨ne_of_lt (Ϫ _),ne_of_gt tl⟩
     refine zqz Pk (hR _ ?rm) ((Walks.list (by simp[hc]) _ l tn its).toS) s.heap.objs.size sn xs hx hi ?notT hb (its.size-0) 0 _ [] (by lia) (zero_le _)
      ⟨⟨_,Μ _ rfl,rfl,rfl⟩,ht1.push _⟩ ?start ?mets (λx hx=>Pk.stay (hX x hx) λb o e _=>Α _ (Α _ e)) (le_refl _) ?last
     case rm=>show A.units+1+1+1<=A.units+20;lia
     case notT=>rintro b hb i s1 ⟨⟨o',h1,h2,_⟩,_⟩ o e c;cases mem_singleton.mp hb;rw[h1]at e;cases e;exact absurd (h2.symm.trans c) (by decide)
     case mets=>exact⟨λx h=>(by cases h),λx h=>(by simp at h)⟩
     case start=>exact⟨_,#[],0,_,Α _ g0,⟨rfl,rfl,rfl⟩,rfl,rfl,λe he=>(by cases he),List.nodup_nil,⟨.inl rfl,Pairwise.nil,λj h=>(by cases h),rfl,(show 0*5<7*3 by decide)⟩,⟨rfl,λi j h e=>(by exact nS e)⟩,rfl⟩
     case last=>rintro⟨g,gg,dd,tk,oo⟩ kas mv hS hM _ hlen;obtain rfl:gg=s.gens:=mv.gens;obtain rfl:dd=s.drawn:=mv.drawn;obtain rfl:oo=s.os:=mv.os;show wpAny _ _ _ _ _ _;refine Λ ?_;show wpAny _ _ (ret Ω.none) _ _ _;refine Λ ⟨rfl,g,tk,rfl,⟨kas,hS,hM,hlen⟩,λb o hb e=>mv.heap b o ?_ (Α _ (Α _ e))⟩;rw[ϓ];simp![mem_cons,not_mem_nil,or_false,not_or];exact⟨ne_of_lt hb,ne_of_lt (ϥ hb)⟩
   cases r2 with
   |error e=>exact hr2| ok f2=>
    cases f2 with
    |ret r=>
     let⟨rfl,g,tk,rfl,⟨kas,hS,hM,hlen⟩,hk⟩:=hr2
     repeat (any_goals (first|assumption|wp_step))
     exact fin _ _ kas hS hM hlen hk
    |_=>exact hr2.elim
  |_=>exact hr.elim
end
end R
end
namespace R
open PySem PySem.Spec PyProof.Rows L2
section
variable{prog:Χ}{w:ϒ}{A:ϔ}{E:Ω->Ι->Prop}{s:Ι}
abbrev IsLp(prog:Χ)(w:ϒ)(h:Heap)(k:KP)(a:Addr):Prop:=∃o t u b n,h.get? a=Φ o/\o.cls=.type "tuple"/\o.data=.seq #[.ref b,.int k.2.1 t,.int k.2.2 u] n/\IsTupleKey (zaf prog w) h (k.1.map Sum.inl) b
def IsLp.typeIs(x:IsLp prog w s.heap k a):s.TypeIs (.ref a) "tuple":=let ⟨o,_,_,_,_,ho,hc,_⟩:=x;⟨o,ho,hc⟩
def IsLp.inj(hx:IsLp prog w h x a)(hy:IsLp prog w h y a):x=y:=by let⟨o,t,u,b,n,ho,_,hd,hi⟩:=hx;let⟨o',t',u',b',n',ho',_,hd',hi'⟩:=hy;obtain rfl:o=o':=Option.some.inj (ho.symm.trans ho');rw[hd]at hd';injection hd' with h1 _;have h1:=congrArg Array.toList h1;simp![List.cons.injEq,Ω.int.injEq,Ω.ref.injEq,and_true]at h1;let⟨rfl,⟨e1,_⟩,e3,_⟩:=h1;have e2:=zdM (hi.inj hi');let⟨x1,x2,x3⟩:=x;let⟨y1,y2,y3⟩:=y;simp_all
def IsLp.keeps(x:IsLp prog w h k a)(ho:h.get? d=Φ o)(hd:o.data=.dict es ep)(hs:Heap.SameBut d h h'):IsLp prog w h' k a:=by
 let⟨o',t,u,b,n,ho',hc,hd',hi⟩:=x;have hne:a≠d:=by rintro rfl;obtain rfl:o'=o:=Option.some.inj (ho'.symm.trans ho);rw[hd]at hd';exact by cases hd'
 exact⟨o',t,u,b,n,(hs.2 a hne).trans ho',hc,hd',hi.keeps ho hd hs⟩
abbrev zjS(prog:Χ)(w:ϒ)(k:KP):Int:=reduceHash (Builtin.Tuple.tupleHashOf [tupleKeyHash (zaf prog w) (k.1.map Sum.inl),hashInt k.2.1,hashInt k.2.2])
def zdg(hu:A.units+4<cLine)(hk:IsLp prog w s.heap k a)(h:Q (zjS prog w k) {s with toks:=s.toks+(k.1.length+4)}):
  wpAny (model prog w) A (pyHash (.ref a)) Q E s:=by
 have hT:=hk.typeIs;let⟨o,t,u,b,n,ho,_,hd,hi⟩:=hk;unfold pyHash
 first|unfold pyHashByItsType|skip
 first|refine Ξ (wpAny_cRoomFor_or (.inr (by lia)) ?_)|skip
 refine Ξ (Ϩ hT F.slot_tuple_hash.lookup ?_);show wpAny _ _ (if(Φ (Ω.builtin "tuple.__hash__")==Φ Ω.none)=Δ then _ else _) Q E s;rw[if_neg (by rw[beq_builtin_none];exact Ε)];refine Ξ (Ϩ hT F.slot_tuple_hash.lookup ?_);show wpAny _ _ (callSpecialIfBoundUnlessNone? (.ref a) "__hash__" _>>=_) Q E s;refine Ξ (wpAny_callSpecialIfBoundUnlessNone?_slot hT F.slot_tuple_hash (ύ F.slot_tuple_hash hT F.entry_tuple_hash ?_ (F.args_tuple_hash_1 _)));show wpAny _ _ (Builtin.Tuple.tupleItemsOf (.ref a)>>=_) _ _ s;refine Ξ (wpAny_tupleItemsOf ho hd ?_);refine Ξ ?_;rw[<-ϣ];refine ϛ _
  (λrest (g:Array Int) s'=>(rest=[.ref b,.int k.2.1 t,.int k.2.2 u]/\g.toList=[]/\s'=s)\/(rest=[.int k.2.1 t,.int k.2.2 u]/\g.toList=[tupleKeyHash (zaf prog w) (k.1.map Sum.inl)]/\s'={s with toks:=s.toks+(k.1.length+1)})
   \/(rest=[.int k.2.2 u]/\g.toList=[tupleKeyHash (zaf prog w) (k.1.map Sum.inl),hashInt k.2.1]/\s'={s with toks:=s.toks+(k.1.length+2)})
   \/(rest=[]/\g.toList=[tupleKeyHash (zaf prog w) (k.1.map Sum.inl),hashInt k.2.1,hashInt k.2.2]/\s'={s with toks:=s.toks+(k.1.length+3)}))
  _ ?_ ?_ _ _ (.inl ⟨rfl,rfl,rfl⟩)
 rintro x rest g s' (⟨e,hg,rfl⟩|⟨e,hg,rfl⟩|⟨e,hg,rfl⟩|⟨e,hg,rfl⟩);cases e;refine Ξ (wpAny_pyHash_tuple (knd:=zaf prog w) (ks:=k.1.map Sum.inl) ?_ hi ?_);show A.units+1<cLine;lia;exact Λ (.inr (.inl ⟨rfl,by simp[hg],by simp![length_map]⟩));cases e;refine Ξ (wpAny_pyHash_int ?_);exact Λ (.inr (.inr (.inl ⟨rfl,by simp[hg],by simp[ϯ]⟩)));cases e;refine Ξ (wpAny_pyHash_int ?_);exact Λ (.inr (.inr (.inr ⟨rfl,by simp[hg],by simp[ϯ]⟩)));cases e;rintro g s' (⟨e,hg,rfl⟩|⟨e,hg,rfl⟩|⟨e,hg,rfl⟩|⟨e,hg,rfl⟩);cases e;cases e;cases e;show wpAny _ _ (retInt (Builtin.Tuple.tupleHashOf g.toList)) _ _ _;rw[hg];refine wpAny_ret_mkInt ?_;show wpAny _ _ (if(decide (-(2:Int)^63<=Builtin.Tuple.tupleHashOf [tupleKeyHash (zaf prog w) (k.1.map Sum.inl),hashInt k.2.1,hashInt k.2.2])&&decide (Builtin.Tuple.tupleHashOf [tupleKeyHash (zaf prog w) (k.1.map Sum.inl),hashInt k.2.1,hashInt k.2.2]<2^63))=Δ then _ else _) Q E _;unfold zjS reduceHash at h;by_cases hr:(decide (-(2:Int)^63<=Builtin.Tuple.tupleHashOf [tupleKeyHash (zaf prog w) (k.1.map Sum.inl),hashInt k.2.1,hashInt k.2.2])&&decide (Builtin.Tuple.tupleHashOf [tupleKeyHash (zaf prog w) (k.1.map Sum.inl),hashInt k.2.1,hashInt k.2.2]<2^63))=Δ;rw[if_pos hr];rw[if_pos hr]at h;exact Λ (by simpa[ϯ]using h);rw[if_neg hr];rw[if_neg hr]at h;exact Ξ (Ϭ (Λ (by simpa[ϯ]using h)))
def zin(hu:A.units<cLine)(hx:IsLp prog w s.heap x a)(hy:IsLp prog w s.heap y b)(h:P (.done (.ret (.bool (decide (x=y))))) s):
  wpAny (model prog w) A (Builtin.«tuple.__eq__» ⟨[.ref a,.ref b],[]⟩) P E s:=by
 have hTb:=hy.typeIs;let⟨oa,t1,u1,b1,na,hoa,_,hda,hia⟩:=hx;let⟨ob,t2,u2,b2,nb,hob,_,hdb,hib⟩:=hy;let⟨x1,x2,x3⟩:=x;let⟨y1,y2,y3⟩:=y;show wpAny _ _ (isInstance (.ref b) (.type "tuple")>>=_) _ _ s;refine Ξ (ϭ hTb isSubtype_tuple_tuple ?_);simp![ώ,Κ,if_false];refine Ξ (wpAny_tupleItemsOf hoa hda ?_);refine Ξ (wpAny_tupleItemsOf hob hdb ?_);refine Ξ ?_;refine ϛ _
  (λrest r s'=>r.1=Ψ/\s'=s/\(rest=[(.ref b1,.ref b2),(.int x2 t1,.int y2 t2),(.int x3 u1,.int y3 u2)]\/(rest=[(.int x2 t1,.int y2 t2),(.int x3 u1,.int y3 u2)]/\x1=y1)\/(rest=[(.int x3 u1,.int y3 u2)]/\x1=y1/\x2=y2)\/(rest=[]/\x1=y1/\x2=y2/\x3=y3)))
  _ ?_ ?_ _ _ ⟨rfl,rfl,.inl rfl⟩
 rintro⟨p,q⟩ rest r s' ⟨hr,rfl,(e|⟨e,z1⟩|⟨e,z1,z2⟩|⟨e,z1,z2,z3⟩)⟩;cases e;refine Ξ (wpAny_eqBool_tuple hu hia hib ?_);by_cases hk:x1=y1;rw[decide_eq_true (by rw[hk])];simp![ώ,Κ,if_false];exact Λ ⟨rfl,rfl,.inr (.inl ⟨trivial,hk⟩)⟩;rw[decide_eq_false (λz=>hk (zdM z))];simp![Bool.not_false,if_true];rw[decide_eq_false (by simp[hk])]at h;exact Ξ (Λ (Λ (Λ h)));cases e;refine Ξ (wpAny_eqBool_int ?_);by_cases hk:x2=y2;rw[show(x2==y2)=Δ by simp[hk]];simp![ώ,Κ,if_false];exact Λ ⟨rfl,rfl,.inr (.inr (.inl ⟨trivial,z1,hk⟩))⟩;rw[show(x2==y2)=Θ by simp[hk]];simp![Bool.not_false,if_true];rw[decide_eq_false (by simp[hk])]at h;exact Ξ (Λ (Λ (Λ h)));cases e;refine Ξ (wpAny_eqBool_int ?_);by_cases hk:x3=y3;rw[show(x3==y3)=Δ by simp[hk]];simp![ώ,Κ,if_false];exact Λ ⟨rfl,rfl,.inr (.inr (.inr ⟨trivial,z1,z2,hk⟩))⟩;rw[show(x3==y3)=Θ by simp[hk]];simp![Bool.not_false,if_true];rw[decide_eq_false (by simp[hk])]at h;exact Ξ (Λ (Λ (Λ h)));cases e;rintro⟨r1,r2⟩ s' ⟨hr,rfl,(e|⟨e,z1⟩|⟨e,z1,z2⟩|⟨e,z1,z2,z3⟩)⟩;cases e;cases e;cases e;simp only at hr;subst hr;refine Λ ?_;rw[decide_eq_true (by rw[z1,z2,z3])]at h;exact h
def zdh(hu:A.units+4<cLine)(hx:IsLp prog w s.heap x a)(hy:IsLp prog w s.heap y b)(h:Q (decide (x=y)) s):
  wpAny (model prog w) A (eqBool (.ref a) (.ref b)) Q E s:=by
 unfold eqBool
 try with_reducible refine ϙ ?_
 show wpAny _ _ (if(Ω.ref a==Ω.ref b)=Δ then _ else _) Q E s;by_cases hab:(Ω.ref a==Ω.ref b)=Δ;rw[if_pos hab];have e:a=b:=by have:=eq_of_beq hab;injection this
 subst e;obtain rfl:=hx.inj hy;exact Ξ (Ϭ (Λ (by simpa using h)))
 rw[if_neg hab];exact Ξ (wpAny_richCompare_same_room (op:=.Eq) hx.typeIs hy.typeIs F.slot_tuple_eq
  (ύ F.slot_tuple_eq hx.typeIs F.entry_tuple_eq (zin (by show A.units+1<cLine;lia) hx hy ⟨_,rfl,(λe=>by cases e),ϟ h⟩) (F.args_tuple_eq_2 _ _)) (by lia))
def zct(hk:IsLp prog w s.heap k a)(h:Q Δ s):wpAny (model prog w) A (eqIsQuiet 8 (.ref a)) Q E s:=by have hT:=hk.typeIs;let⟨o,t,u,b,n,ho,_,hd,hi⟩:=hk;unfold eqIsQuiet;refine Ξ (Ϩ hT F.slot_tuple_eq.lookup ?_);show wpAny _ _ (isInstance (.ref a) (.type "tuple")>>=_) _ _ s;refine Ξ (ϭ hT isSubtype_tuple_tuple ?_);simp![ώ,Κ,if_false];refine Ξ (Ϧ ho hd ?_);refine Ξ ?_;show wpAny _ _ (forIn #[Ω.ref b,.int k.2.1 t,.int k.2.2 u] _ _) _ _ s;rw[<-ϣ];refine ϛ _ (λrest r s'=>r.1=Ψ/\s'=s/\∀v∈rest,carriedByValue v=Δ\/v=.ref b) _ ?_ ?_ _ _ ⟨rfl,rfl,λv hv=>by simp![mem_cons,not_mem_nil,or_false]at hv;rcases hv with rfl|rfl|rfl;exact .inr rfl;exact .inl rfl;exact .inl rfl⟩;rintro v rest r s' ⟨hr,rfl,hall⟩;rcases hall v Υ with hv|rfl;rw[eqIsQuiet_byValue _ hv];refine Ξ (Λ ?_);simp![ώ,Κ,if_false];exact Λ ⟨rfl,rfl,λu hu'=>hall u (Ρ _ hu')⟩;refine Ξ (zmk hi ?_);simp![ώ,Κ,if_false];exact Λ ⟨rfl,rfl,λu hu'=>hall u (Ρ _ hu')⟩;rintro⟨r1,r2⟩ s' ⟨hr,rfl,_⟩;simp only at hr;subst hr;exact Λ h
end
abbrev zjR(prog:Χ)(w:ϒ):HeapKind prog w KP where
 is:=IsLp prog w
 hash:=zjS prog w
 draws:=λk=>k.1.length+4
 room:=λA=>A.units+4<cLine
 inj:=λhx hy=>hx.inj hy
 keeps:=λx ho hd hs=>x.keeps ho hd hs
 pyHash:=λhu hk h=>zdg hu hk h
 eqBool:=λhu hx hy h=>zdh hu hx hy h
 quiet:=λhk h=>zct hk h
section
variable{prog:Χ}{w:ϒ}{A:ϔ}{E:Ω->Ι->Prop}{s:Ι}
def zkj(n)(i)(t):hashByValue n (.int i t)=pure Δ:=by cases n<;>rfl
def hbv7(hv:∀k∈ks,∃i:Int,k=Sum.inl i)(hk:IsTupleKey (zaf prog w) s.heap ks a)(h:Q Δ s):wpAny (model prog w) A (hashByValue 7 (.ref a)) Q E s:=by
 have hT:=hk.typeIs;let⟨o,items,n,ho,_,hd,hi⟩:=hk;have hint:∀{ks:List Key}{vs:List Ω},ItemsAre (zaf prog w) ks vs->(∀k∈ks,∃i:Int,k=Sum.inl i)->∀v∈vs,∃i t,v=Ω.int i t:=by intro ks;induction ks with|nil=>intro vs h _;cases h;exact λv hv=>by cases hv| cons x l ih=>intro vs h hx;cases h with| @cons _ v _ vs h1 h2=>intro u hu;rcases mem_cons.mp hu with rfl|hu;rcases zat (show zfS x u=Δ from h1) with⟨i,t,e3,e4⟩|⟨y,t,e3,e4⟩;exact⟨i,t,e4⟩;let⟨i,e⟩:=hx x (by simp);rw[e]at e3;cases e3;exact ih h2 (λk hk=>hx k (by simp[hk])) u hu
 have hall:=hint hi hv;unfold hashByValue;refine Ξ (Ϩ hT F.slot_tuple_hash.lookup ?_);dsimp only;refine Ξ (Ϧ ho hd ?_);refine Ξ ?_;show wpAny _ _ (forIn items _ _) _ _ s;rw[<-ϣ];refine ϛ _ (λrest r s'=>r.1=Ψ/\s'=s/\∀v∈rest,∃i t,v=Ω.int i t) _ ?_ ?_ _ _ ⟨rfl,rfl,hall⟩;rintro v rest r s' ⟨hr,rfl,hall⟩;let⟨i,t,rfl⟩:=hall v Υ;rw[zkj];refine Ξ (Λ ?_);simp![ώ,Κ,if_false];exact Λ ⟨rfl,rfl,λu hu'=>hall u (Ρ _ hu')⟩;rintro⟨r1,r2⟩ s' ⟨hr,rfl,_⟩;simp only at hr;subst hr;exact Λ h
def zqX(hk:IsLp prog w s.heap k a)(h:∀b,Q b s):wpAny (model prog w) A (hashByValue 8 (.ref a)) Q E s:=by have hT:=hk.typeIs;let⟨o,t,u,b,n,ho,_,hd,hi⟩:=hk;unfold hashByValue;refine Ξ (Ϩ hT F.slot_tuple_hash.lookup ?_);dsimp only;refine Ξ (Ϧ ho hd ?_);refine Ξ ?_;show wpAny _ _ (forIn #[Ω.ref b,.int k.2.1 t,.int k.2.2 u] _ _) _ _ s;rw[<-ϣ];refine ϛ _ (λrest r s'=>r.1=Ψ/\s'=s/\∀v∈rest,(∃i t,v=Ω.int i t)\/v=.ref b) _ ?_ ?_ _ _ ⟨rfl,rfl,λv hv=>by simp![mem_cons,not_mem_nil,or_false]at hv;rcases hv with rfl|rfl|rfl;exact .inr rfl;exact .inl ⟨_,_,rfl⟩;exact .inl ⟨_,_,rfl⟩⟩;rintro v rest r s' ⟨hr,rfl,hall⟩;rcases hall v Υ with⟨i,t,rfl⟩|rfl;rw[zkj];refine Ξ (Λ ?_);simp![ώ,Κ,if_false];exact Λ ⟨rfl,rfl,λu hu'=>hall u (Ρ _ hu')⟩;refine Ξ (hbv7 (λk hk=>by let⟨i,_,rfl⟩:=mem_map.mp hk;exact⟨i,rfl⟩) hi ?_);simp![ώ,Κ,if_false];exact Λ ⟨rfl,rfl,λu hu'=>hall u (Ρ _ hu')⟩;rintro⟨r1,r2⟩ s' ⟨hr,rfl,_⟩;simp only at hr;subst hr;exact Λ (h _)
def zjC(n)(h:carriedByValue v=Δ):ofAClassStatement n v=pure Θ:=by cases v<;>first|(cases n<;>rfl)|exact nB h
def oac7(hk:IsTupleKey (zaf prog w) s.heap ks a)(h:Q Θ s):wpAny (model prog w) A (ofAClassStatement 7 (.ref a)) Q E s:=by have hT:=hk.typeIs;let⟨o,items,n,ho,_,hd,hi⟩:=hk;unfold ofAClassStatement;refine Ξ (wpAny_typeOf hT ?_);dsimp only;rw[if_pos (by decide)];refine Ξ (Λ ?_);simp![ώ,Κ,if_false];refine Ξ (Ϧ ho hd ?_);dsimp only;refine Ξ ?_;show wpAny _ _ (forIn items _ _) _ _ s;rw[<-ϣ];refine ϛ _ (λrest r s'=>r.1=Ψ/\s'=s/\∀v∈rest,carriedByValue v=Δ) _ ?_ ?_ _ _ ⟨rfl,rfl,hi.byValue⟩;rintro v rest r s' ⟨hr,rfl,hall⟩;rw[zjC _ (hall v Υ)];refine Ξ (Λ ?_);simp![Κ,if_false];exact Λ ⟨rfl,rfl,λu hu'=>hall u (Ρ _ hu')⟩;rintro⟨r1,r2⟩ s' ⟨hr,rfl,_⟩;simp only at hr;subst hr;exact Λ h
def zqo(hk:IsLp prog w s.heap k a)(h:Q Θ s):wpAny (model prog w) A (ofAClassStatement 8 (.ref a)) Q E s:=by have hT:=hk.typeIs;let⟨o,t,u,b,n,ho,_,hd,hi⟩:=hk;unfold ofAClassStatement;refine Ξ (wpAny_typeOf hT ?_);dsimp only;rw[if_pos (by decide)];refine Ξ (Λ ?_);simp![ώ,Κ,if_false];refine Ξ (Ϧ ho hd ?_);dsimp only;refine Ξ ?_;show wpAny _ _ (forIn #[Ω.ref b,.int k.2.1 t,.int k.2.2 u] _ _) _ _ s;rw[<-ϣ];refine ϛ _ (λrest r s'=>r.1=Ψ/\s'=s/\∀v∈rest,carriedByValue v=Δ\/v=.ref b) _ ?_ ?_ _ _ ⟨rfl,rfl,λv hv=>by simp![mem_cons,not_mem_nil,or_false]at hv;rcases hv with rfl|rfl|rfl;exact .inr rfl;exact .inl rfl;exact .inl rfl⟩;rintro v rest r s' ⟨hr,rfl,hall⟩;rcases hall v Υ with hv|rfl;rw[zjC _ hv];refine Ξ (Λ ?_);simp![Κ,if_false];exact Λ ⟨rfl,rfl,λu hu'=>hall u (Ρ _ hu')⟩;refine Ξ (oac7 hi ?_);simp![Κ,if_false];exact Λ ⟨rfl,rfl,λu hu'=>hall u (Ρ _ hu')⟩;rintro⟨r1,r2⟩ s' ⟨hr,rfl,_⟩;simp only at hr;subst hr;exact Λ h
def lpPK:PKd (zjR prog w) where
 hbv:=λhk h=>zqX hk h
 cls:=λhk h=>zqo hk h
 stay:=λz k=>(by let⟨o,t,u,b,n,ho,hc,hd,o',its,n',ho',hc',hd',hi⟩:=z;exact ⟨o,t,u,b,n,k _ _ ho hc,hc,hd,o',its,n',k _ _ ho' hc',hc',hd',hi⟩)
end
section
variable{ρ:Type}{lt:ρ->ρ->Prop}[DecidableRel lt]
abbrev rkG(lt:ρ->ρ->Prop)[DecidableRel lt](rows:List ρ)(k:ρ):Int:=((rows.filter λx=>decide (lt x k)).length:Nat)
structure Ord(lt:ρ->ρ->Prop):Prop where
 irr:∀r,¬lt r r
 tra:∀{a b c},lt a b->lt b c->lt a c
 tot:∀{a b},a≠b->lt a b\/lt b a
def zhh(o:Ord lt)(ha:a∈rows)(h:lt a b):rkG lt rows a<rkG lt rows b:=by unfold rkG;have:=zf1 (p:=λx=>decide (lt x a)) (q:=λx=>decide (lt x b)) (l:=rows) (a:=a) (λx _ hx=>decide_eq_true (o.tra (of_decide_eq_true hx) h)) ha (decide_eq_false (o.irr a)) (decide_eq_true h);lia
def zjd(o:Ord lt)(ha:a∈rows)(hb:b∈rows):lt a b↔rkG lt rows a<rkG lt rows b:=by refine⟨zhh o ha,λh=>?_⟩;by_cases e:a=b;subst e;lia;rcases o.tot e with z|z;exact z;have:=zhh o hb z;lia
def zns(o:Ord lt)(ha:a∈rows)(hb:b∈rows)(h:rkG lt rows a=rkG lt rows b):a=b:=by by_cases e:a=b;exact e;rcases o.tot e with z|z;have:=zhh o ha z;lia;have:=zhh o hb z;lia
end
variable[Mks]
section
variable{ρ:Type}[Inhabited ρ]{lt:ρ->ρ->Prop}[DecidableRel lt]{RA KA:Hp->Addr->ρ->Prop}{κ:SortKind}
variable{X:Cx}{pins:List (Addr×Obj)}{σ:L2.St}{H:Hp}{s:Ι}{A':ϔ}{f D kS:Addr}{rows:List ρ}
structure SortK(X:Cx)(pins:List (Addr×Obj))(σ:L2.St)(A':ϔ)(H:Hp)(f:Addr)(RA KA:Hp->Addr->ρ->Prop)(κ:SortKind)(lt:ρ->ρ->Prop)[DecidableRel lt]:Prop where
 upR:∀{H1 H2 a r},Kp H1 H2->RA H1 a r->RA H2 a r
 upK:∀{H1 H2 b r},Kp H1 H2->KA H1 b r->KA H2 b r
 call:∀{H1 s1 a r},Inv X pins σ H1 s1->Ext [] H [] H1->RA H1 a r->wpAny (model X.prog X.w) A' (call (.ref f) [.ref a]) (λy s'=>∃b H',y=.ref b/\Inv X pins σ H' s'/\KA H' b r/\Ext [] H1 [] H'/\Un (frs X.stack) [] H1 H' s1.heap s'.heap) (λ_ _=>False) s1
 kind:∀{H1 s1}{ks:List Ω}{Q:SortKind->Ι->Prop}{E:Ω->Ι->Prop},Inv X pins σ H1 s1->(∀k∈ks,∃b r,k=Ω.ref b/\KA H1 b r)->1<=ks.length->Q κ s1->wpAny (model X.prog X.w) A' (keyKind' ks.toArray) Q E s1
 less:∀{H1 s1 b c r r'}{Q:Bool->Ι->Prop}{E:Ω->Ι->Prop},Inv X pins σ H1 s1->KA H1 b r->KA H1 c r'->Q (decide (lt r r')) s1->wpAny (model X.prog X.w) A' (keyLt' κ (.ref b) (.ref c)) Q E s1
 ord:Ord lt
 fn:∀{H1 b r r'},KA H1 b r->KA H1 b r'->r=r'
end
end R
namespace R
open PySem PySem.Spec PyProof.Rows L2
section
variable{prog:Χ}{w:ϒ}{A:ϔ}{E:Ω->Ι->Prop}{s:Ι}
def zrZ(hu:A.units<cLine)(hx:IsLp prog w s.heap x a)(hy:IsLp prog w s.heap y b)(q:Q (decide (LtP x y)) s):
  wpAny (model prog w) A (keyLt' (tuples' Θ) (.ref a) (.ref b)) Q E s:=by
 let⟨oa,t1,u1,b1,na,hoa,_,hda,hia⟩:=hx;let⟨ob,t2,u2,b2,nb,hob,_,hdb,hib⟩:=hy;let⟨x1,x2,x3⟩:=x;let⟨y1,y2,y3⟩:=y;dsimp only at hda hdb hia hib;refine PySem.W.kat_lt hoa hda hob hdb (kat_cons (wpAny_eqBool_tuple hu hia hib ?_));by_cases d1:x1=y1;rw[show decide ((x1.map Sum.inl:List Key)=y1.map Sum.inl)=Δ from decide_eq_true (by rw[d1])];refine PySem.W.kat_yes (kat_cons (wpAny_eqBool_int ?_));by_cases d2:x2=y2;rw[show(x2==y2)=Δ by simp[d2]];refine PySem.W.kat_yes (kat_cons (wpAny_eqBool_int ?_));by_cases d3:x3=y3;rw[show(x3==y3)=Δ by simp[d3]];refine PySem.W.kat_yes (PySem.W.kat_nil ?_);rw[decide_eq_false (by subst d1 d2 d3;exact za8 _)]at q;exact q;rw[show(x3==y3)=Θ by simp[d3]];refine kat_no (kat_one _ _ (wpAny_lt_int ?_));have:decide (LtP (x1,x2,x3) (y1,y2,y3))=decide (x3<y3):=by apply Bool.eq_iff_iff.mpr;rw[decide_eq_true_eq,decide_eq_true_eq];subst d1 d2;unfold LtP;dsimp only;rw[zb4];simp
 rw[this]at q;exact q;rw[show(x2==y2)=Θ by simp[d2]];refine kat_no (kat_one _ _ (wpAny_lt_int ?_));have:decide (LtP (x1,x2,x3) (y1,y2,y3))=decide (x2<y2):=by apply Bool.eq_iff_iff.mpr;rw[decide_eq_true_eq,decide_eq_true_eq];subst d1;unfold LtP;dsimp only;rw[zb4];simp[d2]
 rw[this]at q;exact q;rw[show decide ((x1.map Sum.inl:List Key)=y1.map Sum.inl)=Θ from decide_eq_false (λz=>d1 (zdM z))];let⟨i1,p1,p2⟩:=ziU hia;let⟨i2,p3,p4⟩:=ziU hib;refine kat_no (kat_one _ _ (HT.lt_tupInts p1 p3 p2 p4 hu ?_));have:decide (LtP (x1,x2,x3) (y1,y2,y3))=HT.lexLt x1 y1:=by rw[<-zjY];apply Bool.eq_iff_iff.mpr;rw[decide_eq_true_eq];unfold LtP;dsimp only;simp[d1]
 rw[this]at q;exact q
def zjQ:∀{vs:List Ω},(∀v∈vs,∃c k,v=Ω.ref c/\IsLp prog w h k c)->∃fs:List Ω,KatTups h vs fs/\fs.length=vs.length/\∀v∈fs,∃(b:Addr) (ks:List Key),v=Ω.ref b/\IsTupleKey (zaf prog w) h ks b
 | [],_=>⟨[],KatTups.nil,rfl,λv h=>by cases h⟩| v::vs,hk=>by let⟨c,k,rfl,o,t,u,b,n,g1,g2,g3,g4⟩:=hk v (by simp);let⟨fs,h1,h2,h3⟩:=zjQ (vs:=vs) λx hx=>hk x (by simp[hx]);refine⟨.ref b::fs,KatTups.cons g1 g2 g3 rfl h1,by simp[h2],λv hv=>?_⟩;rcases mem_cons.mp hv with rfl|hv;exact⟨b,_,rfl,g4⟩;exact h3 v hv
def zn3{vs:List Ω}(hk:∀v∈vs,∃c k,v=Ω.ref c/\IsLp prog w s.heap k c)(h1:1<=vs.length)(q:Q (tuples' Θ) s):wpAny (model prog w) A (keyKind' vs.toArray) Q E s:=by let⟨fs,t1,t2,t3⟩:=zjQ hk;refine PySem.W.kat_kind (T:=.type "tuple") t1 (by lia) (λv hv=>?_) rfl q;let⟨b,ks,rfl,o,items,n,ho,hc,hd,hi⟩:=t3 v hv;have:PySem.W.Looks (model prog w) s.heap (typeOf (.ref b)) o.cls:=(PySem.W.Looks.ld ho).andThen .now;rw[hc]at this;exact this
def ordP:Ord LtP:=⟨za8,λh k=>zdE h k,λh=>zfN h⟩
abbrev adrV:Ω->Addr|.ref a=>a|_=>0
abbrev kofV(xs:List (KP×Addr))(v:Ω):KP:=((xs.find? λx=>decide (x.2=adrV v)).map (·.1)).getD ([],0,0)
def zem(hk:∀x∈xs,IsLp prog w h x.1 x.2)(hx:x∈xs):kofV xs (.ref x.2)=x.1:=by
 unfold kofV;cases e:xs.find? λy=>decide (y.2=adrV (.ref x.2)) with
 |none=>exact absurd (List.find?_eq_none.mp e x hx) (by simp[adrV])| some y=>
  have h1:=List.mem_of_find?_eq_some e;have h2:y.2=x.2:=by have:=List.find?_some e;exact of_decide_eq_true this
  exact(hk y h1).inj (h2▸hk x hx)
def zfO(hu:A.units<cLine)(ho:s.heap.get? a=Φ (seqObj "list" (xs.map λx=>Ω.ref x.2).toArray n))(h64:xs.length<1000)(nd:(xs.map (·.1)).Nodup)(hk:∀x∈xs,IsLp prog w s.heap x.1 x.2)(h:∀ys:List (KP×Addr),ys.Perm xs->(ys.map (·.1)).Pairwise LtP->P (.done (.ret .none)) {s with heap:=sortedHeap s.heap a (xs.map λx=>Ω.ref x.2) (ys.map λx=>Ω.ref x.2).toArray}):
  wpAny (model prog w) A (Builtin.«list.sort» ⟨[.ref a],[]⟩) P E s:=by
 rw[list_sort_plain];generalize hvs:(xs.map λx=>Ω.ref x.2)=vs at ho h;have hl:vs.length=xs.length:=by rw[<-hvs,length_map]
 have ha:a<s.heap.objs.size:=Ν ho;refine Ξ (listItems_at ho rfl ?_);refine Ξ (listUpdate_at ho rfl ?_ (by rw[size_toArray,ϑ];lia) (zero_le _));obtain⟨e1,ho1⟩:∃e1,(s.heap.update a (Obj.mapSeq λ_=>(#[]:Array Ω))).get? a=Φ (seqObj "list" #[] e1):=⟨_,get?_update_seq ho (λ_=>#[])⟩;refine Ξ (seqEpoch_at ho1 rfl ?_);refine Ξ (wpAny_newTuple ?_ (by show vs.length<=_;rw[ϑ];lia));refine Ξ (wpAny_newList ?_ (zero_le _));refine ϙ ?_;have ho6:(((s.heap.update a (Obj.mapSeq λ_=>(#[]:Array Ω))).push (seqObj "tuple" vs.toArray 0)).push (seqObj "list" #[] 0)).get? a=Φ (seqObj "list" #[] e1):=Α _ (Α _ ho1);have keep:∀b o,b≠a->s.heap.get? b=Φ o->(((s.heap.update a (Obj.mapSeq λ_=>(#[]:Array Ω))).push (seqObj "tuple" vs.toArray 0)).push (seqObj "list" #[] 0)).get? b=Φ o:=λb o hb e=>Α _ (Α _ ((Heap.get?_update_other _ _ (Ne.symm hb)).trans e));have hk':∀x∈xs,IsLp prog w (((s.heap.update a (Obj.mapSeq λ_=>(#[]:Array Ω))).push (seqObj "tuple" vs.toArray 0)).push (seqObj "list" #[] 0)) x.1 x.2:=λx hx=>lpPK.stay (hk x hx) λb o e c=>keep b o (λz=>by subst z;rw[ho]at e;cases e;exact absurd (show Ω.type "list"=Ω.type "tuple" from c) (by decide)) e
 show wpAny (model prog w) A _ P E {s with heap:=((s.heap.update a (Obj.mapSeq λ_=>(#[]:Array Ω))).push (seqObj "tuple" vs.toArray 0)).push (seqObj "list" #[] 0)};dsimp only;have fin:∀(st:SortSt)(ys:List (KP×Addr)),ys.Perm xs->(ys.map (·.1)).Pairwise LtP->failedOf st=Ψ->(arrOf st).map (·.2)=(ys.map λx=>Ω.ref x.2).toArray->wpAny (model prog w) A (do
   let touched:=(<-seqEpoch a) != e1
   Builtin.List.listUpdate (.ref a) λ_=>(arrOf st).map (·.2)
   if let Φ e:=failedOf st then rule "list.sort.comparison-raised";throw e
   if touched then rule "list.sort.modified";raiseError "ValueError" "list modified during sort"
   ret .none) P E {s with heap:=((s.heap.update a (Obj.mapSeq λ_=>(#[]:Array Ω))).push (seqObj "tuple" vs.toArray 0)).push (seqObj "list" #[] 0)}:=λst ys pm as hf he=>by
  rw[he,hf];refine Ξ (seqEpoch_at ho6 rfl ?_);refine Ξ (listUpdate_at ho6 rfl ?_ (zero_le _) (by rw[size_toArray,length_map,pm.length_eq,ϑ];lia));simp![bne_self_eq_false,Κ,if_false];exact Λ (h ys pm as)
 by_cases h2:vs.toArray.size<2;rw[if_pos h2,if_pos h2];have h2':xs.length<2:=by rw[<-hl];simpa using h2
 refine Ξ (Λ ?_);rw[StateT.run_pure];refine Ξ (Λ ?_);refine fin _ xs (List.Perm.refl _) ?_ rfl ?_;rw[pairwise_map,List.pairwise_iff_getElem];intro i j hi hj hij;lia;show((vs.toArray.zip vs.toArray).map (·.2))=_;apply Array.toList_inj.mp;rw[Array.toList_map,Array.toList_zip,hvs];exact List.map_snd_zip (by lia);have h2':2<=vs.length:=by simpa using h2
 rw[if_neg h2,if_neg h2];refine Ξ (zn3 (λv hv=>by rw[<-hvs]at hv;let⟨x,hx,rfl⟩:=mem_map.mp hv;exact⟨x.2,x.1,rfl,hk' x hx⟩) (by lia) ?_);generalize hT:vs.zip vs=T;have eT:T=xs.map λx=>((Ω.ref x.2,Ω.ref x.2):Keyed):=by rw[<-hT,<-hvs,List.zip_map']
 have tl:T.length=xs.length:=by rw[eT,length_map]
 have sz:(SortSt.mk' (tuples' Θ) (vs.toArray.zip vs.toArray) #[] 7 Ψ)=SortSt.mk' (tuples' Θ) T.toArray #[] 7 Ψ:=by congr 1;apply Array.toList_inj.mp;rw[Array.toList_zip,hT]
 rw[sz];have mem:∀y∈T,∃x∈xs,y=(Ω.ref x.2,Ω.ref x.2):=λy hy=>by rw[eT]at hy;let⟨x,hx,rfl⟩:=mem_map.mp hy;exact⟨x,hx,rfl⟩
 have rw1:=Sr.runs_wp (prog:=prog) (w:=w) (A:=A) (E:=E) (s:={s with heap:=((s.heap.update a (Obj.mapSeq λ_=>(#[]:Array Ω))).push (seqObj "tuple" vs.toArray 0)).push (seqObj "list" #[] 0)}) (κ:=tuples' Θ) (T:=T) (rk:=λy=>rkG LtP (xs.map (·.1)) (kofV xs y.1)) (st:=SortSt.mk' (tuples' Θ) T.toArray #[] 7 Ψ)
  (Q:=λ_ st'=>Sr.SB (tuples' Θ) T st'/\Sr.So (λy=>rkG LtP (xs.map (·.1)) (kofV xs y.1)) (arrOf st') 0 T.length) (λx y C hx hy hC=>?_) ?_ ⟨List.Perm.refl _,rfl,rfl⟩ rfl (by lia) λst' b so=>⟨b,so⟩
 refine Ξ (Ϥ rw1 ?_ λ_ _ z=>z);rintro⟨⟨⟩,st'⟩ s' ⟨rfl,b,so⟩;have inv1:∀y∈T,((Ω.ref (kofV xs y.1,adrV y.1).2,Ω.ref (kofV xs y.1,adrV y.1).2):Keyed)=y:=λy hy=>by let⟨x,_,rfl⟩:=mem y hy;rfl
 have inv2:T.map (λy=>(kofV xs y.1,adrV y.1))=xs:=by rw[eT,map_map];refine Eq.trans (Ϣ λx hx=>?_) (List.map_id xs);show(kofV xs (Ω.ref x.2),adrV (Ω.ref x.2))=x;rw[zem hk hx];rfl
 have pm:((arrOf st').toList.map λy=>(kofV xs y.1,adrV y.1)).Perm xs:=by have:=b.perm.map λy=>(kofV xs y.1,adrV y.1);rw[inv2]at this;exact this
 refine fin st' _ pm ?_ b.failed ?_;rw[map_map,pairwise_map,List.pairwise_iff_getElem];intro i j hi hj hij;simp![length_toList]at hi hj;have h3:=so i j (zero_le _) hij (by rw[<-b.size];exact hj);rw[Sr.Kr_at hi,Sr.Kr_at hj]at h3;simp![ϡ];let⟨x,hx,ex⟩:=mem _ (b.mem hi);let⟨y,hy,ey⟩:=mem _ (b.mem hj);show LtP (kofV xs (arrOf st')[i].1) (kofV xs (arrOf st')[j].1);have m1:kofV xs (arrOf st')[i].1∈xs.map (·.1):=by rw[ex];exact mem_map.mpr ⟨x,hx,(zem hk hx).symm⟩
 have m2:kofV xs (arrOf st')[j].1∈xs.map (·.1):=by rw[ey];exact mem_map.mpr ⟨y,hy,(zem hk hy).symm⟩
 exact(zjd ordP m1 m2).mpr h3;apply Array.toList_inj.mp;rw[Array.toList_map,map_map];refine Ϣ λy hy=>?_;let⟨x,_,rfl⟩:=mem y (b.perm.mem_iff.mp hy);rfl;let⟨x',hx',rfl⟩:=mem x hx;let⟨y',hy',rfl⟩:=mem y hy;refine zrZ hu (hk' x' hx') (hk' y' hy') ?_;have:decide (LtP x'.1 y'.1)=decide ((λy:Keyed=>rkG LtP (xs.map (·.1)) (kofV xs y.1)) (Ω.ref x'.2,Ω.ref x'.2)<(λy:Keyed=>rkG LtP (xs.map (·.1)) (kofV xs y.1)) (Ω.ref y'.2,Ω.ref y'.2)):=by apply Bool.eq_iff_iff.mpr;rw[decide_eq_true_eq,decide_eq_true_eq];dsimp only;rw[zem hk hx',zem hk hy'];exact zjd ordP (mem_map.mpr ⟨x',hx',rfl⟩) (mem_map.mpr ⟨y',hy',rfl⟩)
 rw[this];exact hC;have:T.map (λy=>rkG LtP (xs.map (·.1)) (kofV xs y.1))=(xs.map (·.1)).map (rkG LtP (xs.map (·.1))):=by rw[eT,map_map,map_map];refine Ϣ λx hx=>?_;show rkG _ _ (kofV xs (Ω.ref x.2))=_;rw[zem hk hx];rfl
 rw[this,List.nodup_iff_pairwise_ne,pairwise_map];exact nd.imp_of_mem λ{a b} ha hb ne e=>ne (zns ordP ha hb e)
end
end R
namespace R
open PySem PySem.Spec PyProof.Rows L2
variable[Mks]
section
variable{K:Frag}{ι:List Addr}{H H2:Hp}{S:R.St}
def zfV:∀{ds:List D}{xs:List V}{p:List Int},RVs K ι H ds xs->zaI ds=Φ p->xs=p.map V.int
 | [],xs,p,r,e=>by cases(show xs=[] from r);simp[zaI]at e;subst e;rfl| d::ds,xs,p,r,e=>by
  let⟨v,vs,rfl,r1,r2⟩:=r;unfold zaI at e;rw[mapM_cons]at e;cases d with
  |int i=>
   cases e2:ds.mapM zea with
   |none=>rw[e2]at e;exact nS e
   |some q=>rw[e2]at e;cases e;rw[zfV r2 (show zaI ds=Φ q from e2),show v=.int i from r1];rfl
  |_=>exact nS e
end
end R
namespace R
open PySem PySem.Spec PyProof.Rows L2
abbrev LpH(H:Hp)(k:KP)(c:Addr):Prop:=∃b,H c=Φ (.tup [.ref b,.int k.2.1,.int k.2.2])/\H b=Φ (.tup (k.1.map V.int))
def LpH.up(h:LpH H k c)(ht:∀b xs,H b=Φ (.tup xs)->H' b=Φ (.tup xs)):LpH H' k c:=let ⟨b,h1,h2⟩:=h;⟨b,ht _ _ h1,ht _ _ h2⟩
def zmu(ok:HOk P w H h)(e:LpH H k c):IsLp P w h k c:=by let⟨b,e1,e2⟩:=e;let⟨_,its,rv,o,ho,hc,n,hd⟩:=(show ObjOk P w H h c (.tup _) from ok c _ e1);cases rv with| @cons _ v1 _ r1 q1 rv=>cases rv with| @cons _ v2 _ r2 q2 rv=>cases rv with| @cons _ v3 _ r3 q3 rv=>cases rv;cases(show v1=Ω.ref b from q1);let⟨t,rfl⟩:=q2;let⟨u,rfl⟩:=q3;exact⟨o,t,u,b,n,ho,hc,hd,zhw (ks:=k.1.map Sum.inl) ok (a:=b) (by rw[map_map];exact e2)⟩
def zfH{α β:Type}{g:α->β}{l l':List β}(p:l.Perm l'):∀xs:List α,l'=xs.map g->∃ys:List α,l=ys.map g/\ys.Perm xs:=by
 induction p with
 |nil=>intro xs h;exact⟨xs,h,List.Perm.refl _⟩| cons x p ih=>
  intro xs h;cases xs with
  |nil=>cases h
  |cons y xs=>rw[ϊ]at h;injection h with h1 h2;let⟨ys,e,q⟩:=ih xs h2;exact⟨y::ys,by rw[ϊ,h1,e],q.cons y⟩
 |swap x y l=>
  intro xs h
  match xs,h with| a::b::xs,h=>rw[ϊ,ϊ]at h;injection h with h1 h2;injection h2 with h2 h3;exact⟨b::a::xs,by rw[ϊ,ϊ,h1,h2,h3],List.Perm.swap ..⟩
 |trans p q ih1 ih2=>intro xs h;let⟨ys,e,r⟩:=ih2 xs h;let⟨zs,e',r'⟩:=ih1 ys e;exact⟨zs,e',r'.trans r⟩
abbrev SetO2(prog:Χ)(w:ϒ)(o:Obj)(kas:List (KP×Addr)):Prop:=∃es ep t,o.ExactSet/\o.data=.set es ep t/\t.fits es.size=Δ/\TOk (!byT w) t/\es.size<scanBound/\es.toList.map (·.2)=kas.map (λx=>Ω.ref x.2)/\(kas.map (·.1)).Nodup
def SetO2.of(x:SetP (zjR prog w) h a kas)(hn:kas.length<300):∃o,h.get? a=Φ o/\SetO2 prog w o kas:=by let⟨o,es,ep,t,S⟩:=x;have fits:t.fits es.size=Δ:=S.fits;have len:es.size=kas.length:=S.len;exact⟨o,S.ho,es,ep,t,S.ex,S.hd,fits,⟨S.ld,S.tt.rise⟩,by rw[len];unfold scanBound;lia,by rw[S.es,map_map];rfl,S.nd⟩
section
variable[Mks]{X:Cx}
def ziO:∀{xs:List (KP×Addr)}{us:List Ω},Vals (xs.map λx=>V.ref x.2) us->us=xs.map λx=>Ω.ref x.2
 | [],_,h=>by cases h;rfl| x::l,_,h=>by cases h with|cons h1 h2=>rw[ϊ,<-ziO h2,show _=Ω.ref x.2 from h1]
def zed:∀xs:List (KP×Addr),Vals (xs.map λx=>V.ref x.2) (xs.map λx=>Ω.ref x.2)
 | []=>.nil|_::l=>.cons rfl (zed l)
def zk1(hc:X.calm=Δ)(hu:X.A.units+40<cLine):za0 X (.type "set") (λxs H Q=>∃(a:Addr) (ys:List (KP×Addr)),xs=[.ref a]/\SqL X.K H a (ys.map λy=>V.ref y.2)/\ys.length<300/\(∀y∈ys,LpH H y.1 y.2)/\∀p,H p=Ψ->∀o kas,SetO2 X.prog X.w o kas->Mets ys kas->kas.length<=ys.length->Q (.ref p) (upd H p (.frz o (.own 0)))):=by
 intro pins s σ H xs us Q I r h;let⟨a,ys,rfl,hq,hz,hy,q⟩:=h;let⟨u,rfl,ru⟩:=r.one;cases(show u=Ω.ref a from ru);have fresh:=I.hok.fresh (le_refl s.heap.objs.size);have hA:X.A.handled=Ψ:=I.ok.hd hc;let⟨its,rv,pl,hz2⟩:=I.list hq;have ei:=ziO rv;subst ei;have hl:(ys.map λx=>Ω.ref x.2).toArray.size=ys.length:=by simp
 refine zi4 (knd:=zjR X.prog X.w) lpPK (λB hB=>show B.units+4<cLine by lia) (xs:=ys) hA pl.isList hl.symm (λi v e=>?_) (λx hx=>zmu I.hok (hy x hx)) (by rw[hl];exact hz) λg tk kas hS hM hlen kp=>?_;rw[List.getElem?_toArray,getElem?_map]at e;cases ey:ys[i]? with
 |none=>rw[ey]at e;exact nS e
 |some y=>rw[ey]at e;cases e;exact⟨y,rfl,rfl⟩
 rw[hl]at hlen;let⟨o,ho,so⟩:=SetO2.of hS (by lia);exact⟨.ref s.heap.objs.size,_,I.laid (o:=.frz o (.own 0)) (λb o e=>kp b o (Ν e) e) (le_refl _) ⟨ho,_,ho⟩,rfl,q _ fresh o kas so hM hlen⟩
def zgs(hc:X.calm=Δ)(hu:X.A.units+40<cLine):za0 X (.builtin "sorted") (λxs H Q=>∃(a:Addr) (o:Obj) (kas:List (KP×Addr)),xs=[.ref a]/\H a=Φ (.frz o (.own 0))/\SetO2 X.prog X.w o kas/\kas.length<300/\(∀x∈kas,LpH H x.1 x.2)/\∀(p:Addr)(ys:List (KP×Addr)),H p=Ψ->ys.Perm kas->(ys.map (·.1)).Pairwise LtP->Q (.ref p) (upd H p (.lst (ys.map λy=>V.ref y.2)))):=by
 intro pins s σ H xs us Q I r h;let⟨a,o,kas,rfl,hf,⟨es,ep,t,x1,x2,x3,x4,x5,x6,x7⟩,hn,hk,q⟩:=h;let⟨u,rfl,ru⟩:=r.one;cases(show u=Ω.ref a from ru);have ho:s.heap.get? a=Φ o:=(show ObjOk X.prog X.w H s.heap a (.frz o (.own 0)) from I.hok a _ hf).1;have hA:X.A.handled=Ψ:=I.ok.hd hc;refine Calls.call_function_entry kind_sorted plain_sorted entry_sorted (args_sorted1 _) ?_;unfold Builtin.«sorted»;refine Ξ (m:=checkCount "sorted" 1 1 _) (Λ ?_);refine Ξ (zdo hA ho x1 x2 x3 x4 x5 λh1 d' tk vals kp hlt hp=>?_);let⟨zs,rfl,pz⟩:=zfH hp kas x6;have zl:zs.length<300:=by rw[pz.length_eq];exact hn
 refine Ξ (wpAny_newList ?_ (by rw[length_map,ϑ];lia));have hoL:(h1.push (seqObj "list" (zs.map λx=>Ω.ref x.2).toArray 0)).get? h1.objs.size=Φ (seqObj "list" (zs.map λx=>Ω.ref x.2).toArray 0):=Μ _ rfl;refine Ξ (ϙ (ύ slot_list_sort ⟨_,hoL,rfl⟩ entry_list_sort (zfO (prog:=X.prog) (w:=X.w) (by show X.A.units+1+1<cLine;lia) hoL (by lia) (((pz.map (·.1)).nodup_iff).mpr x7) (λx hx=>lpPK.stay (zmu I.hok (hk x (pz.mem_iff.mp hx))) λb o e _=>Α _ (kp b o e)) λys py as=>⟨_,rfl,?_⟩) (args_list_sort _)));have hle:s.heap.objs.size<=h1.objs.size:=le_of_lt hlt;let⟨c,hc'⟩:=sortedHeap_at (out:=(ys.map λx=>Ω.ref x.2).toArray) hoL;refine Λ ⟨_,rfl,.ref h1.objs.size,_,zkd (s:=s) (d':=d') (t':=tk) (o:=.lst (ys.map λy=>V.ref y.2)) I (λb u e=>?_) hle ⟨?_,_,c,zed ys,?_⟩,rfl,q _ ys (I.hok.fresh hle) (py.trans pz) as⟩;have e1:=kp b u e;have l1:=Ν e1;rw[sortedHeap_old (ne_of_lt l1) (Nat.lt_of_lt_of_eq (ϥ l1) (ϓ ..).symm)];exact Α _ e1;rw[length_map,py.length_eq,ϑ];lia;exact hc'
end
end R
namespace R
open PySem PySem.Spec PyProof.Rows L2
variable[Mks]
def zrY{K}(r:RV K ι H d v)(e:lpOf d=Φ k):∃a,v=.ref a/\LpH H k a:=by
 unfold lpOf at e;split at e;rename_i ds b w;cases e2:zaI ds with
 |none=>rw[e2]at e;exact nS e
 |some p=>rw[e2]at e;cases e;let⟨a,xs,rfl,hx,v1,w1,rfl,r1,v2,w2,rfl,r2,v3,w3,rfl,r3,rn⟩:=r;cases(show w3=[] from rn);let⟨c,ys,rfl,hy,ry⟩:=r1;cases(show v2=.int b from r2);cases(show v3=.int w from r3);exact⟨a,rfl,c,hx,by rw[hy,zfV ry e2]⟩
 exact nS e
def zmr{K}:∀{ds:List D}{xs:List V}{ks:List KP},RVs K ι H ds xs->ds.mapM lpOf=Φ ks->∃ys:List (KP×Addr),xs=ys.map (λy=>V.ref y.2)/\ys.map (·.1)=ks/\∀y∈ys,LpH H y.1 y.2
 | [],xs,ks,r,e=>by cases(show xs=[] from r);simp at e;subst e;exact⟨[],rfl,rfl,λy h=>by cases h⟩| d::ds,xs,ks,r,e=>by
  let⟨v,vs,rfl,r1,r2⟩:=r;rw[mapM_cons]at e;cases e1:lpOf d with
  |none=>rw[e1]at e;exact nS e
  |some k=>
   cases e2:ds.mapM lpOf with
   |none=>rw[e1,e2]at e;exact nS e
   |some q=>rw[e1,e2]at e;cases e;let⟨ys,rfl,h1,h2⟩:=zmr r2 e2;let⟨a,rfl,hl⟩:=zrY r1 e1;refine⟨(k,a)::ys,rfl,by rw[ϊ,h1],λy hy=>?_⟩;rcases mem_cons.mp hy with rfl|hy;exact hl;exact h2 y hy
def zpJ{K}:∀{ys:List (KP×Addr)},(∀y∈ys,LpH H y.1 y.2)->RVs K ι H ((ys.map (·.1)).map lpD) (ys.map λy=>V.ref y.2)
 | [],_=>rfl| y::ys,h=>by let⟨b,h1,h2⟩:=h y (by simp);refine⟨_,_,rfl,⟨y.2,_,rfl,h1,_,_,rfl,⟨b,_,rfl,h2,RVs.ints _⟩,_,_,rfl,rfl,_,_,rfl,rfl,rfl⟩,zpJ λz hz=>h z (by simp[hz])⟩
section
variable{X:Cx}{T:Tab}{cf:CF}{k:Nat}{N:List Str}{sc:Scope}{pos p p2 pos':Pos}
def zk3(G:Gd T cf k N sc X)(hg:Gl X "sorted"/\X.mg "sorted"=Ψ)(hr:Gl X "set"/\X.mg "set"=Ψ)(he:PE X e (tE X.K cf ca))(hst:zak e=Δ):
  PE X (.Call (.Name "sorted" p) [.Call (.Name "set" p2) [e] [] pos'] [] pos) (tE X.K cf (.ssetP ca)):=by
 have hu:X.A.units+40<cLine:=by have:=G.hu;lia
 have hin:=zaO (p:=p2) (pos:=pos') (zk1 G.calm hu) hr.1 hr.2 zkI (zaD he hst) (by decide) (by decide) (zao hst [] X.env);refine PE.imp (zb1 (zgs G.calm hu) hg.1 hg.2 zgl (zaD hin rfl) (by decide) (by decide) rfl) λσ H Qv j=>?_;let⟨δ,ι,S,Q,hs,hh,w,q⟩:=j;change W (Out.bind _ _) _ at w;simp![zab] at w;refine tE.run hs hh w λd v ι1 H1 S1 x1 hs1 hh1 r1 w1=>?_;let⟨ks,hb,w2⟩:=zaA w1;unfold zjP at hb;split at w2;rename_i c;cases d with
 |ref l=>
  let⟨a,h1,rfl⟩:=r1;dsimp only at hb;cases e1:S1.get l with
  |none=>rw[e1]at hb;exact nS hb
  |some ob=>
   rw[e1]at hb;cases ob with
   |lst ds=>
    have hb:ds.mapM lpOf=Φ ks:=hb;let⟨a',g1,zs,ha,rz⟩:=hh1.obj _ _ e1;rw[h1]at g1;cases g1;let⟨ys,rfl,ek,hy⟩:=zmr rz hb;have yl:ys.length<300:=by rw[<-ek,length_map]at c;exact c
    let⟨c2,w3⟩:=zcg w2;refine⟨a,ys,rfl,SqL.of ha,yl,hy,λpr hpr o kas so hM hl=>⟨pr,o,kas,rfl,zap,so,by lia,λx hx=>(hy x (hM.sub x hx)).up λb xs e=>by rw[zai (zav e hpr)];exact e,λl zs hl hp as=>?_⟩⟩;have ee:Ext ι1 H1 ι1 (upd H1 pr (.frz o (.own 0))):=Ext.new hpr _;have eks:zdm ks=zs.map (·.1):=by refine zdl (λz=>?_) (zbE ks) as;rw[zcv,<-ek];constructor;intro hz;let⟨y,hy',rfl⟩:=mem_map.mp hz;rw[(hp.map (·.1)).mem_iff];exact hM.all y hy';intro hz;rw[(hp.map (·.1)).mem_iff]at hz;let⟨y,hy',rfl⟩:=mem_map.mp hz;exact mem_map.mpr ⟨y,hM.sub y hy',rfl⟩
    rw[eks]at w3;refine q _ _ (Lf.up (x1.trans ee) (Lf.lst (hh1.new hpr _) hl (zpJ λz hz=>?_) w3));exact(hy z (hM.sub z (hp.mem_iff.mp hz))).up λb xs e=>by rw[zai (zav e hpr)];exact e
   |_=>exact nS hb
 |_=>exact nS hb
 exact w2.elim
end
section
variable{T:Tab}{cf:CF}{k:Nat}{N:List Str}{sc:Scope}{X:Cx}{pos p:Pos}
def zfW(h:zeb S d=Φ (c,fs)):∃l,d=.ref l/\S.get l=Φ (.ins c fs):=by
 cases d with
 |ref l=>
  refine⟨l,rfl,?_⟩;unfold zeb at h;dsimp only at h;cases e:S.get l with
  |none=>rw[e]at h;exact nS h
  |some o=>rw[e]at h;cases o with|ins c' fs'=>cases h;rfl|_=>exact nS h
 |_=>exact nS h
def ne_of{b:Type}[BEq b]{xs:List b}{a:b}(h:xs.contains a=Δ):xs≠[]:=λe=>by rw[e]at h;simp at h
def Gd.clsAt(G:Gd T cf k N sc X)(d:T.flds≠[]\/T.inits≠[]\/T.isas≠[]){c:Nat}(h:Mks.cl[c]?=Φ C):∃x,T.cls[c]?=Φ x/\Cls X.K C/\X.mg x=Φ (.ref C)/\∀f,T.flds.contains f=Δ->NoAttr X.K C f:=by have a:c<T.cls.length:=lt_of_lt_of_le (Ζ.mp h).1 (G.tab.cln d);let⟨j,b,e,g,i⟩:=G.tab.cls c T.cls[c] (Η a);rw[h]at b;cases b;exact⟨_,Η a,e,g,i⟩
def zpt(G:Gd T cf k N sc X)(ha:PE X a (tE X.K cf ca))(hsup:zcd a=Δ)(hf:T.flds.contains f=Δ):PE X (.Attribute a f pos) (tE X.K cf (.fld ca f)):=by
 refine PE.imp (zp9 ha (zfp hsup f X.env _)) λσ H Qv z=>?_;let⟨δ,ι,S,Q,hs,hh,w,q⟩:=z;change W (Out.bind _ _) _ at w;simp![zab] at w;refine tE.run hs hh w λd v ι1 H1 S1 x1 hs1 hh1 r1 w1=>?_;let⟨u,eu,w2⟩:=zaA w1;cases ei:zeb S1 d with
 |none=>rw[ei]at eu;exact nS eu
 |some pr=>let⟨c,fs⟩:=pr;rw[ei]at eu;have eu:fs.lookup f=Φ u:=eu;let⟨l,rfl,hl⟩:=zfW ei;let⟨b,i1,rfl⟩:=r1;let⟨b',i2,C,dx,ws,hC,hb,rf⟩:=hh1.obj l _ hl;rw[i1]at i2;cases i2;let⟨_,_,cl,_,na⟩:=G.clsAt (.inl (ne_of hf)) hC;rcases rf.look f with⟨e1,_⟩|⟨d',v',e1,e2,rv⟩;rw[eu]at e1;cases e1;rw[eu]at e1;cases e1;exact⟨b,C,dx,ws,v',rfl,hb,cl,na f hf,e2,q _ _ (Lf.up x1 (Lf.of hh1 rv w2))⟩
def zhp(hbase:attributeBase o name env (eval o env)=eval o env)(hfew:((backTo pos (starEach args env)).all (λx=>!x.1)&&(backToKw pos (keywordEach [] env)).all (λx=>x.1.isSome)
   && decide (args.length+([]:List Keyword).length+(if([]:List Keyword).isEmpty then 0 else 1)<30))=Δ)(hline:(apos.endLine==pos.line)=Δ)(h:wpAny (model prog w) A (eval o env) (λov s₁=>∀pl,wpAny (model prog w) A (getMethod ov name pl) (λfx s₂=>wpAny (model prog w) A (callWith pos fx.1 fx.2 (backTo pos (starEach args env)) (backToKw pos (keywordEach [] env))) Q E s₂) E s₁) E s):
  wpAny (model prog w) A (eval (.Call (.Attribute o name apos) args [] pos) env) Q E s:=by
 rw[arm_eval_Call,hbase];refine Ξ (Ϥ h (λov s₁ h₁=>?_) λ_ _ e=>e);refine Ξ (wpAny_standAt ?_);have hform:methodCallForm (args.length+([]:List Keyword).length) (backTo pos (starEach args env)) (backToKw pos (keywordEach [] env))=Δ:=hfew;have hpos:methodCallPos Δ o env apos pos=pure pos:=by unfold methodCallPos;simp[hline]
 unfold methodCall;rw[hform];refine Ξ (ϙ (Ϥ (h₁ _) (λfx s₂ h₂=>?_) λ_ _ e=>e));let⟨f,first⟩:=fx;exact Ξ (wpAny_of_eq hpos h₂)
abbrev ziW(X:Cx)(k:Nat)(m:Str)(ta:TE)(t:TA):TE:=λσ H Q=>ta σ H λx H1=>∃(a C dx:Addr) (fs:List (Str×V)) (fa:Addr) (fd:FuncData) (ps:List Str) (sp:Sp),x=.ref a/\H1 a=Φ (.ins C dx fs)/\Cls X.K C/\Meth X.K C m fa/\
 FnOk X.prog X.w X.K X.mg X.base CX0 k fa fd ps sp/\Binds X.K fd ps []/\fs.lookup m=Ψ/\t σ H1 λvs H2=>sp (x::vs) H2 Q E0
def zlr(he:PE X o ta)(hr:Room k X.A)(ha:PA X (e::es) t)(hbase:attributeBase o m X.env (eval o X.env)=eval o X.env)(hfew:((backTo pos (starEach (e::es) X.env)).all (λx=>!x.1)&&(backToKw pos (keywordEach [] X.env)).all (λx=>x.1.isSome)
   && decide ((e::es).length+([]:List Keyword).length+(if([]:List Keyword).isEmpty then 0 else 1)<30))=Δ)(hline:(apos.endLine==pos.line)=Δ)(hst:starEach (e::es) X.env=(Θ,eval e X.env)::starEach es X.env)(hpl:(backTo pos (starEach es X.env)).any (·.1)=Θ):
  PE X (.Call (.Attribute o m apos) (e::es) [] pos) (ziW X k m ta t):=by
 intro pins s σ H Q I h;refine zhp hbase hfew hline (thn (he pins s σ H _ I h) λu s1 z pl=>?_);let⟨x,H1,I1,rx,a,C,dx,fs,fa,fd,ps,sp,ex,ea,c,hm,F,hb,l,q⟩:=z;subst ex;obtain rfl:u=Ω.ref a:=rx;refine zep I1 ea c hm l ?_;refine callWith_K (first:=[.ref a]) (h₀:=X.base) I.ok.mod.kin hm.kp (thn (ha pos pins s1 σ H1 _ I1 q) λus s2 z=>eY z λvs H2 I2 r q2=>⟨I2.kIn,?_⟩) hst hpl;exact zhg (us:=.ref a::us) (vs:=.ref a::vs) F hr hb .nil zid I2 (.cons rfl r) (by rw[append_nil];exact q2)
def zjv(he:PE X o ta)(hr:Room k X.A)(hbase:attributeBase o m X.env (eval o X.env)=eval o X.env)(hline:(apos.endLine==pos.line)=Δ):
  PE X (.Call (.Attribute o m apos) [] [] pos) (ziW X k m ta tNil):=by
 intro pins s σ H Q I h;refine zhp hbase rfl hline (thn (he pins s σ H _ I h) λu s1 z pl=>?_);let⟨x,H1,I1,rx,a,C,dx,fs,fa,fd,ps,sp,ex,ea,c,hm,F,hb,l,q⟩:=z;subst ex;obtain rfl:u=Ω.ref a:=rx;refine zep I1 ea c hm l ?_;exact callWith_K0 (first:=[.ref a]) I1.kIn hm.kp (zhg (us:=[.ref a]) (vs:=[.ref a]) F hr hb .nil zid I1 (.cons rfl .nil) (by rw[append_nil];exact q))
abbrev mtB(T:Tab)(m:Str)(tb:List (Nat×Nat)):Bool:=tb.all λp=>T.mts.contains (p.1,m,p.2)
def zio{tb:List (Nat×Nat)}(h:tb.lookup c=Φ f):(c,f)∈tb:=by
 induction tb with
 |nil=>exact nS h
 |cons p r ih=>let⟨c',f'⟩:=p;simp![List.lookup]at h;split at h;rename_i e;cases h;have:=eq_of_beq e;subst this;simp;exact Ρ _ (ih h)
def zho(G:Gd T cf k N sc X)(hm:mtB T m tb=Δ)(ht:∀{σ:L2.St}{H:Hp}{Qa:List V->Hp->Prop},tAs X.K cf ces σ H Qa->t σ H Qa)(h:tE X.K cf (.meth m tb co ces) σ H Qv):ziW X k m (tE X.K cf co) t σ H Qv:=by
 let⟨δ,ι,S,Q,hs,hh,w,q⟩:=h;change W (Out.bind _ _) _ at w;simp![zab] at w;refine tE.run hs hh w λd v ι1 H1 S1 x1 hs1 hh1 r1 w1=>?_;let⟨pr,ei,w2⟩:=zaA w1;let⟨c,fs⟩:=pr;let⟨f,ef,w3⟩:=zaA w2;split at w3;rename_i hn;rw[zab]at w3;let⟨l,rfl,hl⟩:=zfW ei;have r1':=r1;let⟨b,i1,rfl⟩:=r1;let⟨b',i2,C,dx,ws,hC,hb,rf⟩:=hh1.obj l _ hl;rw[i1]at i2;cases i2;have hmt:=all_eq_true.mp hm (c,f) (zio ef);let⟨C',fa,fd,ps,hC',cl,me,F,bi⟩:=(G.tab.mth c m f hmt).ex;rw[hC]at hC';cases hC';have hlk:ws.lookup m=Ψ:=by rcases rf.look m with⟨_,e2⟩|⟨d',v',e1,_,_⟩;exact e2;dsimp only at hn;rw[e1]at hn;exact nB hn
 refine⟨b,C,dx,ws,fa,fd,ps,_,rfl,hb,cl,me,F,bi,hlk,ht ?_⟩;refine tAs.run hs1 hh1 w3 λds vs ι2 H2 S2 x2 hs2 hh2 r2 w4=>?_;unfold appW at w4;refine⟨ι2,S2,.ref l::ds,⟨.ref b,vs,rfl,r1'.ext x2,r2⟩,hh2,?_⟩;let⟨d,T',e,w5⟩:=ziF w4;rw[e];exact λv H' ι' x r hT=>q v H' (Lf.up (x1.trans x2) ⟨d,ι',T',x,r,hT,w5⟩);exact w3.elim
def znj(G:Gd T cf k N sc X)(hm:mtB T m tb=Δ)(ho:PE X o (tE X.K cf co))(ha:PA X (e::es) (tAs X.K cf ces))(hst:(e::es).all zak=Δ)(hsup:zcd o=Δ)(hl:(apos.endLine==pos.line)=Δ)(hn:(e::es).length<29):
  PE X (.Call (.Attribute o m apos) (e::es) [] pos) (tE X.K cf (.meth m tb co ces)):=by
 have hs:=hst;rw[all_cons,Β]at hst;refine PE.imp (zlr ho G.room ha (zfp hsup m X.env _) ?_ hl (zao hst.1 es X.env) (zbk hst.2)) λσ H Qv h=>zho G hm (λz=>z) h;have h0:=zbk (pos:=pos) (env:=X.env) hs;have h1:(backTo pos (starEach (e::es) X.env)).all (λx=>!x.1)=Δ:=by rw[all_eq_true];intro x hx;have:=List.any_eq_false.mp h0 x hx;simpa using this
 have h2:decide ((e::es).length+([]:List Keyword).length+(if([]:List Keyword).isEmpty then 0 else 1)<30)=Δ:=by rw[decide_eq_true_eq];show(e::es).length+0+0<30;lia
 rw[h1,h2];rfl
def zhn(hc:ces=.nil)(h:tAs X.K cf ces σ H Qa):tNil σ H Qa:=by subst hc;let⟨δ,ι,S,Q,hs,hh,w,q⟩:=h;exact q [] H ⟨[],ι,S,Ext.refl _ _,rfl,hh,by simpa[evEs]using w⟩
def zk5(G:Gd T cf k N sc X)(hm:mtB T m tb=Δ)(ho:PE X o (tE X.K cf co))(hsup:zcd o=Δ)(hl:(apos.endLine==pos.line)=Δ):
  PE X (.Call (.Attribute o m apos) [] [] pos) (tE X.K cf (.meth m tb co .nil)):=
 PE.imp (zjv ho G.room (zfp hsup m X.env _) hl) λσ H Qv h=>zho G hm (λz=>zhn rfl z) h
def Vals.nons:∀j:Nat,Vals (List.replicate j .non) (List.replicate j Ω.none)
 |0=>.nil|j+1=>.cons rfl (Vals.nons j)
def zhs(G:Gd T cf k N sc X)(hC:Mks.cl[c]?=Φ C)(ht:∀{σ:L2.St}{H:Hp}{Qa:List V->Hp->Prop},tAs X.K cf ces σ H Qa->t σ H Qa)(h:tE X.K cf (.mk c f x j ces) σ H Qv):zmZ C (spF X.K cf f) (List.replicate j V.non) E0 t σ H Qv:=by
 let⟨δ,ι,S,Q,hs,hh,w,q⟩:=h;change W (Out.bind _ _) _ at w;simp![zab] at w;refine ht (tAs.run hs hh w λds vs ι1 H1 S1 x1 hs1 hh1 r1 w1=>?_);intro y dy hy hdy hne;have hh2:=hh1.new hdy (.own y);have x2:Ext ι1 H1 ι1 (upd H1 dy (.own y)):=Ext.new hdy _;have hy2:(upd H1 dy (.own y)) y=Ψ:=by rw[zai (Ne.symm hne)];exact hy
 have hh3:=hh2.obj' hy2 (.ins C dy []) (.ins c []) ⟨C,dy,[],hC,zap,rfl⟩;have x3:Ext ι1 (upd H1 dy (.own y)) (ι1++[y]) (upd (upd H1 dy (.own y)) y (.ins C dy [])):=Ext.obj hh2 hy2 _;unfold appW at w1;let⟨d,T',e,w2⟩:=ziF w1;refine⟨ι1++[y],S1.push (.ins c []),.ref S1.len::(ds++List.replicate j .non),⟨.ref y,_,rfl,⟨y,hh2.last y,rfl⟩,RVs.append ((r1.ext x2).ext x3) (RVs.nons j)⟩,hh3,?_⟩;rw[e];intro v H' ι' x' r hT;split at w2;rename_i hn;cases d with| non=>refine⟨r,q _ _ ⟨.ref S1.len,ι',T',((x1.trans x2).trans x3).trans x',⟨y,zck x'.pre (hh2.last y),rfl⟩,hT,w2⟩⟩|_=>exact nB hn
 exact w2.elim
def zry(G:Gd T cf k N sc X)(hi:T.inits.contains (c,f,j)=Δ)(hx:T.cls[c]?=Φ x)(hg:isGl sc x=Δ)(hd:(x==("__debug__":Str))=Θ)(ha:PA X (e::es) (tAs X.K cf ces))(hst:(e::es).all zak=Δ):
  PE X (.Call (.Name x p) (e::es) [] pos) (tE X.K cf (.mk c f x j ces)):=by
 let⟨C,fa,fd,ps,hC,M,F,hb⟩:=(G.tab.ini c f j hi).ex;let⟨x',e1,_,hm,_⟩:=G.clsAt (.inr (.inl (ne_of hi))) hC;rw[hx]at e1;cases e1;rw[all_cons,Β]at hst;exact PE.imp (znL M F G.room' (G.gl hg) hm hb (Vals.nons j) zid ha hd (zao hst.1 es X.env) (zbk hst.2)) λσ H Qv h=>zhs G hC (λz=>z) h
def zpp(G:Gd T cf k N sc X)(hi:T.inits.contains (c,f,j)=Δ)(hx:T.cls[c]?=Φ x)(hg:isGl sc x=Δ)(hd:(x==("__debug__":Str))=Θ):
  PE X (.Call (.Name x p) [] [] pos) (tE X.K cf (.mk c f x j .nil)):=by
 let⟨C,fa,fd,ps,hC,M,F,hb⟩:=(G.tab.ini c f j hi).ex;let⟨x',e1,_,hm,_⟩:=G.clsAt (.inr (.inl (ne_of hi))) hC;rw[hx]at e1;cases e1;exact PE.imp (zls M F G.room' (G.gl hg) hm hb (Vals.nons j) zid hd) λσ H Qv h=>zhs G hC (λz=>zhn rfl z) h
end
section
variable{prog:Χ}{w:ϒ}{A:ϔ}{E:Ω->Ι->Prop}{s:Ι}
def ziD(n:Nat):Builtin.Slice.sliceAdjust Ψ Ψ (-1) (n:Int)=((n:Int)-1,-1):=rfl
def zia(n:Nat):Builtin.Slice.slicePlaces ((n:Int)-1) (-1) (-1)=n:=by unfold Builtin.Slice.slicePlaces;rw[if_neg (by decide)];by_cases h:(n:Int)-1 > -1;rw[if_pos h,show - -1=(1:Int) from rfl,Int.ediv_one];lia;rw[if_neg h];lia
def zll(xs:Array Ω):((List.range xs.size).filterMap λ(m:Nat)=>xs[(((xs.size:Int)-1)+(m:Int) * -1).toNat]?).toArray=xs.toList.reverse.toArray:=by
 congr 1;have e:∀m∈List.range xs.size,xs[(((xs.size:Int)-1)+(m:Int) * -1).toNat]?=Φ ((xs.toList.reverse[m]?).getD .none):=by
  intro m hm;have hm:=mem_range.mp hm;have:(((xs.size:Int)-1)+(m:Int) * -1).toNat=xs.size-1-m:=by omega
  rw[this,List.getElem?_reverse (by simpa using hm),length_toList];have:xs.size-1-m<xs.size:=by omega
  rw[ϋ,ϐ this];rfl
 have e2:∀(f:Nat->Option Ω)(g:Nat->Ω)(l:List Nat),(∀m∈l,f m=Φ (g m))->l.filterMap f=l.map g:=by intro f g l;induction l with|nil=>intro _;rfl| cons a l ih=>intro h;rw[List.filterMap_cons,h a Υ,ϊ,ih λm hm=>h m (Ρ _ hm)]
 rw[e2 _ _ _ e];refine ext_getElem? λi=>?_;rw[getElem?_map];by_cases h:i<xs.size;rw[List.getElem?_range h];have:i<xs.toList.reverse.length:=by simpa using h
 rw[Option.map_some,Η this];rfl;rw[ϝ (by simpa using h),ϝ (by simpa using h)];rfl
def zc6{n:Nat}(hs:s.heap.IsSliceOf sl .none .none vs)(ps:IsPart vs (Φ (-1)))(h:Q ((n:Int)-1,-1,n) s):wpAny (model prog w) A (Builtin.Slice.sliceApplied (.ref sl) (pure (n:Int))) Q E s:=by
 let⟨os,hos,hcs,hds⟩:=id hs;unfold Builtin.Slice.sliceApplied Builtin.Slice.sliceFields;refine Ξ (Ξ (wpAny_field hos hds (x:=.none) rfl (Ξ (wpAny_field hos hds (x:=.none) rfl (Ξ (wpAny_field hos hds (x:=vs) rfl (Λ ?_)))))));cases ps with|int i t=>
 refine Ξ (HT.slicePart_ (.int _ t) ?_);show wpAny _ _ (if((-1:Int)==0)=Δ then _ else _) _ _ s;rw[if_neg (by decide)];refine Ξ (HT.slicePart_ .none (Ξ (HT.slicePart_ .none (Ξ (Λ ?_)))));show wpAny _ _ (match Builtin.Slice.sliceAdjust Ψ Ψ (-1) (n:Int) with|(lo,hi)=>pure (lo,(-1:Int),Builtin.Slice.slicePlaces lo hi (-1))) _ _ s;rw[ziD n];show wpAny _ _ (pure ((n:Int)-1,(-1:Int),Builtin.Slice.slicePlaces ((n:Int)-1) (-1) (-1))) _ _ s;rw[zia];exact Λ h
def zcU(ht:IsTup s.heap t items)(hs:s.heap.IsSliceOf sl .none .none vs)(ps:IsPart vs (Φ (-1)))(h:Q (.ref s.heap.objs.size) {s with heap:=s.heap.push {cls:=.type "tuple",data:=.seq items.toList.reverse.toArray}})(hsz:items.size<=sizeLine):wpAny (model prog w) A (getItem (.ref t) (.ref sl)) Q E s:=by
 have htake:sizeOk (.seq items.toList.reverse.toArray):=by show items.toList.reverse.toArray.size<=sizeLine;rw[size_toArray,List.length_reverse,length_toList];exact hsz
 let⟨os,hos,hcs,hds⟩:=id hs;have hTs:s.TypeIs (.ref sl) "slice":=⟨os,hos,hcs⟩;unfold getItem
 try with_reducible refine ϙ ?_
 first|refine Ξ (Λ ?_)|skip
 refine Ξ (wpAny_sequenceKey ht.typeIs (by decide) ?_);refine Ξ (Ϝ (name:=Str.ofString "__getitem__") ht.typeIs PyProof.Rows.slot_tuple_getitem
  (ύ PyProof.Rows.slot_tuple_getitem ht.typeIs entry_tuple_getitem ?_ (args_tuple_getitem _ _)))
 show wpAny _ _ (Builtin.Tuple.tupleItemsOf (.ref t)>>=_) _ _ s;refine Ξ (tupleItemsOf_ ht ?_);refine Ξ (wpAny_typeOf hTs ?_);rw[if_pos (by decide)];refine Ξ (zc6 hs ps ?_);have hno:¬((((items.size:Int)-1)==0&&(-1:Int)==1&&items.size==items.size)=Δ):=by intro q;rw[Β,Β]at q;exact absurd q.1.2 (by decide)
 show wpAny _ _ (if(((items.size:Int)-1)==0&&(-1:Int)==1&&items.size==items.size)=Δ then _ else _) _ _ s;rw[if_neg hno,zll]
 first
  |exact Ξ (m:=Builtin.Tuple.tupleExact _) (ό (Λ ⟨_,rfl,Λ h⟩) htake)
  |exact Ξ (m:=Builtin.Tuple.tupleExact _) (ό (Ξ (Λ (Λ ⟨_,rfl,Λ h⟩))) htake)
  |exact Ξ (Ξ (m:=Builtin.Tuple.tupleExact _) (ό (Λ (Λ ⟨_,rfl,Λ h⟩)) htake))
  |exact Ξ (Ξ (m:=Builtin.Tuple.tupleExact _) (ό (Λ ⟨_,rfl,Λ h⟩) htake))
end
def zgr{α β:Type}{P:α->β->Prop}{Z:List α->List β->Prop}(z0:Z [] [])(z1:∀{a b as bs},P a b->Z as bs->Z (a::as) (b::bs)){xs:List α}{ys:List β}(g:∀i:Nat,(∃x y,xs[i]?=Φ x/\ys[i]?=Φ y/\P x y)\/(xs[i]?=Ψ/\ys[i]?=Ψ)) :
  ∀is:List Nat,Z (is.filterMap (xs[·]?)) (is.filterMap (ys[·]?))
 | []=>z0| i::is=>by have ih:=zgr z0 z1 g is;rw[List.filterMap_cons,List.filterMap_cons];rcases g i with⟨x,y,e1,e2,p⟩|⟨e1,e2⟩;rw[e1,e2];exact z1 p ih;rw[e1,e2];exact ih
def Vals.stp(r:Vals xs us)(k):Vals (R.stp xs k) (R.stp us k):=by unfold R.stp;rw[r.length];refine zgr (P:=RelV) (Z:=Vals) .nil (λp z=>.cons p z) (λi=>?_) _;cases e:xs[i]? with|none=>exact .inr ⟨rfl,Vals.none_of r e⟩| some x=>let⟨u,h1,h2⟩:=Vals.get r e;exact .inl ⟨x,u,rfl,h1,h2⟩
def RVs.stp{K}(r:RVs K ι H ds xs)(k):RVs K ι H (R.stp ds k) (R.stp xs k):=by have hl:=r.length;unfold R.stp;rw[hl];refine zgr (P:=RV K ι H) (Z:=RVs K ι H) (by unfold RVs;trivial) (λp z=>RVs.cons_iff.mpr ⟨p,z⟩) (λi=>?_) _;cases e:ds[i]? with| none=>refine .inr ⟨rfl,?_⟩;rw[List.getElem?_eq_none_iff]at e⊢;lia| some d=>let⟨v,h1,h2⟩:=r.get e;exact .inl ⟨d,v,rfl,h1,h2⟩
def zlk(its)(k):slicePick its.toArray Ψ Ψ (Φ k)=(stp its k).toArray:=by unfold slicePick stp stpI;rw[show its.toArray.size=its.length from size_toArray];congr 1;rw[show(λ(x:Nat)=>its.toArray[x]?)=λx=>its[x]? from by funext x;simp];rfl
def Vals.app(r:Vals xs us)(q:Vals ys ws):Vals (xs++ys) (us++ws):=by induction r with|nil=>exact q|cons p _ ih=>exact .cons p ih
def Vals.rev(r:Vals xs us):Vals xs.reverse us.reverse:=by induction r with|nil=>exact .nil| cons p _ ih=>rw[List.reverse_cons,List.reverse_cons];exact Vals.app ih (.cons p .nil)
def RVs.rev{K}:∀{ds:List D}{xs:List V},RVs K ι H ds xs->RVs K ι H ds.reverse xs.reverse
 | [],[],r=>r| d::ds,x::xs,r=>by let⟨p,q⟩:=RVs.cons_iff.mp r;rw[List.reverse_cons,List.reverse_cons];exact RVs.append (RVs.rev q) (RVs.cons_iff.mpr ⟨p,by unfold RVs;trivial⟩)| [],_::_,r=>by have:=r.length;cases this
 |_::_,[],r=>by have:=r.length;cases this
section
variable{X:Cx}{e st:Expr}{te ts:TE}{pos p2:Pos}
abbrev tRev(K:Frag)(te ts:TE):TE:=λσ H Q=>te σ H λx H1=>zo9 ts σ H1 λo H2=>(∃k a xs,o=Φ k/\k≠0/\x=.ref a/\SqL K H2 a xs/\(stp xs k).length<=sizeLine/\∀p,H2 p=Ψ->Q (.ref p) (upd H2 p (.lst (stp xs k))))\/
 (∃a xs,o=Φ (-1)/\x=.ref a/\SqT K H2 a xs/\∀p,H2 p=Ψ->Q (.ref p) (upd H2 p (.tup xs.reverse)))
def zp3(he:PE X e te)(hs:PE X st ts):PE X (.Subscript e (.Slice Ψ Ψ (Φ st) p2) pos) (tRev X.K te ts):=by
 intro pins s σ H Q I h;refine Subscript_ (thn (he pins s σ H _ I h) λv s1 z=>?_);let⟨x,H1,I1,r1,q1⟩:=z;refine wpAny_Slice (thn (zgJ pins s1 σ H1 (λo H'=>o=Ψ/\H'=H1) I1 ⟨rfl,rfl⟩) λvl s2 z=>?_);let⟨l,H2,I2,pl,q2⟩:=z;let⟨rfl,rfl⟩:=q2;refine thn (zgJ pins s2 σ H2 (λo H'=>o=Ψ/\H'=H2) I2 ⟨rfl,rfl⟩) λvu s3 z=>?_;let⟨u,H3,I3,pu,q3⟩:=z;let⟨rfl,rfl⟩:=q3;refine thn (zjp hs pins s3 σ H3 _ I3 q1) λvs s4 z=>?_;let⟨c,H4,I4,ps,q4⟩:=z;rcases q4 with⟨k,a,xs,rfl,hk,rfl,ha,hz,q⟩|⟨a,xs,rfl,rfl,ha,q⟩
 case inr=>
  cases r1;have I5:Inv X pins σ H4 {s4 with heap:=s4.heap.push {cls:=.type "slice",data:=.fields #[vl,vu,vs]}}:=I4.kept (t':=s4.toks) λb ob q=>Α _ q;let⟨its,r,ht,hz'⟩:=I5.tuple ha;have hlen:=r.length;have el:vl=.none:=by cases pl;rfl
  have eu:vu=.none:=by cases pu;rfl
  subst el;subst eu;show wpAny (model X.prog X.w) X.A (subscriptTail e (.Slice Ψ Ψ (Φ st) p2) (.ref a) (.ref s4.heap.objs.size)) (EP X pins σ Q) X.xe {s4 with heap:=s4.heap.push {cls:=.type "slice",data:=.fields #[.none,.none,vs]}};refine tail_any (ops:=[.ref a,.ref s4.heap.objs.size]) ht.typeIs PyProof.Rows.slot_tuple_getitem.lookup ?_ (by with_unfolding_all rfl);refine zcU ht (Heap.IsSliceOf.new ..) ps ?_ (by rw[size_toArray]<;>lia);refine⟨.ref _,_,I5.laid (t':=s4.toks) (o:=.tup xs.reverse) (λb ob q=>Α _ q) (le_refl _) ?_,rfl,q _ (I5.hok.fresh (le_refl _))⟩;exact⟨by rw[List.length_reverse];lia,_,Vals.rev r,IsTup.new _ _⟩
 cases r1;have I5:Inv X pins σ H4 {s4 with heap:=s4.heap.push {cls:=.type "slice",data:=.fields #[vl,vu,vs]}}:=I4.kept (t':=s4.toks) λb ob q=>Α _ q;let⟨its,r,ht,hz'⟩:=I5.list ha;have hlen:=r.length;show wpAny (model X.prog X.w) X.A (subscriptTail e (.Slice Ψ Ψ (Φ st) p2) (.ref a) (.ref s4.heap.objs.size)) (EP X pins σ Q) X.xe {s4 with heap:=s4.heap.push {cls:=.type "slice",data:=.fields #[vl,vu,vs]}};refine tail_any (ops:=[.ref a,.ref s4.heap.objs.size]) ht.isList.typeIs slot_list_getitem.lookup ?_ (by with_unfolding_all rfl);refine wpAny_getItem_list_slice ht.isList (Heap.IsSliceOf.new ..) pl pu ps (by simpa using hk) ?_ (by rw[size_toArray]<;>lia);rw[zlk];refine⟨.ref _,_,I5.laid (t':=s4.toks) (o:=.lst (stp xs k)) (λb ob q=>Α _ q) (le_refl _) ?_,rfl,q _ (I5.hok.fresh (le_refl _))⟩;exact⟨hz,_,0,Vals.stp r k,Μ _ rfl⟩
end
section
variable{X:Cx}{cf:CF}{pos p2:Pos}
def zpl(ha:PE X a (tE X.K cf ca))(hb:PE X b (tE X.K cf cb)):PE X (.Subscript a (.Slice Ψ Ψ (Φ b) p2) pos) (tE X.K cf (.slS ca cb)):=by
 refine PE.imp (zp3 ha hb) λσ H Qv z=>?_;let⟨δ,ι,S,Q,hs,hh,w,q⟩:=z;change W (Out.bind _ _) _ at w;simp![zab] at w;refine tE.run hs hh w λd v ι1 H1 S1 x1 hs1 hh1 r1 w1=>?_;refine tE.run hs1 hh1 w1 λy u ι2 H2 S2 x2 hs2 hh2 r2 w2=>?_;cases d with
 |ref l=>
  cases y with
  |int k=>obtain rfl:u=.int k:=r2;dsimp only at w2;by_cases hk:k=0;rw[if_pos hk]at w2;exact w2.elim;rw[if_neg hk]at w2;cases e:S2.get l with|none=>rw[e]at w2;exact w2.elim| some o=>rw[e]at w2;cases o with| lst ds=>have r1':=r1.ext x2;let⟨a',h1,rfl⟩:=r1';let⟨b',h2,xs,ha',rr⟩:=hh2.obj _ _ e;rw[h1]at h2;cases h2;let⟨hz,w3⟩:=zcg w2;refine⟨k,rfl,.inl ⟨k,a',xs,rfl,hk,rfl,SqL.of ha',?_,λp hp=>q _ _ (Lf.up (x1.trans x2) (Lf.lst hh2 hp (rr.stp k) w3))⟩⟩;rw[(rr.stp k).length];exact hz|_=>exact w2.elim
  |_=>exact w2.elim
 |tup ds=>cases y with| int k=>obtain rfl:u=.int k:=r2;dsimp only at w2;by_cases hk:k = -1;subst hk;rw[if_pos rfl]at w2;have r1':=r1.ext x2;let⟨a',xs,rfl,ha',rr⟩:=r1';exact⟨-1,rfl,.inr ⟨a',xs,rfl,rfl,SqT.of ha',λp hp=>q _ _ (Lf.up (x1.trans x2) (Lf.tup hh2 hp rr.rev w2))⟩⟩;rw[if_neg hk]at w2;exact w2.elim|_=>exact w2.elim
 |_=>exact w2.elim
end
abbrev LfS(K:Frag)(ι:List Addr)(H:Hp)(Q:Fl->R.St->Prop)(E:Ends):Prop:=∀f ι' H' S',Ext ι H ι' H'->RH K ι' H' S'->Q f S'->(match f with|.nx δ'=>∀σ',RS K ι' H' δ' σ'->E.nx σ' H'|.rt d=>∀v,RV K ι' H' d v->E.rt v H')
abbrev tS(K:Frag)(cf:CF)(cs:CS):TS:=λE σ H=>∃δ ι S Q,RS K ι H δ σ/\RH K ι H S/\W (exS cf cs δ S) Q/\LfS K ι H Q E
def LfS.up{K}(h:LfS K ι H Q E)(x:Ext ι H a b):LfS K a b Q E:=λf ι' H' c d e q=>h f ι' H' c (x.trans d) e q
def PSs.imp{st}(h:PSs X st t)(i:∀E a H,t' E a H->t E a H):PSs X st t':=λb s a H E I q=>h b s a H E I (i E a H q)
section
variable{T:Tab}{cf:CF}{k:Nat}{N:List Str}{sc:Scope}{X:Cx}{pos p:Pos}{rest:List Stmt}
def zpf:PSs X [] (tS X.K cf .nil):=PSs.imp znF λE σ H z=>by let⟨δ,ι,S,Q,hs,hh,w,l⟩:=z;exact l _ ι H S (Ext.refl _ _) hh w σ hs
def zph(G:Gd T cf k N sc X)(hi:N[i]?=Φ x)(hl:zfU sc x=Δ)(he:PE X e (tE X.K cf ce))(hc:zbJ e=Δ)(hr:PSs X rest (tS X.K cf r)):
  PSs X (.Assign [.Name x p] e pos::rest) (tS X.K cf (.asg i ce r)):=by
 refine PSs.imp (zaY (zml (i:=i) (by rw[G.nm];exact G.nd) (by rw[G.nm];exact hi) (G.lc hl).1 he (zgq hc _ _ _) (G.lc hl).2) hr) λE σ H z=>?_;let⟨δ,ι,S,Q,hs,hh,w,l⟩:=z;change W (Out.bind _ _) _ at w;simp![zab] at w;refine tE.run hs hh w λd v ι1 H1 S1 x1 hs1 hh1 r1 w1=>?_;exact⟨δ.set i (Φ d),ι1,S1,Q,hs1.set r1 i,hh1,w1,l.up x1⟩
def zm7(G:Gd T cf k N sc X)(hi:N[i]?=Φ x)(hps:∃t,PS X (.Assign [.Name x p] e pos) (tAsg t (zkp i))/\∀σ H Qv,tE X.K cf ce σ H Qv->t σ H Qv)(hr:PSs X rest (tS X.K cf r)):
  PSs X (.Assign [.Name x p] e pos::rest) (tS X.K cf (.asg i ce r)):=by
 let⟨t,hp,ht⟩:=hps;refine PSs.imp (zaY hp hr) λE σ H z=>?_;let⟨δ,ι,S,Q,hs,hh,w,l⟩:=z;change W (Out.bind _ _) _ at w;simp![zab] at w;refine ht _ _ _ (tE.run hs hh w λd v ι1 H1 S1 x1 hs1 hh1 r1 w1=>?_);exact⟨δ.set i (Φ d),ι1,S1,Q,hs1.set r1 i,hh1,w1,l.up x1⟩
def zm4(he:PE X e (tE X.K cf ce))(hc:zbJ e=Δ)(hr:PSs X rest (tS X.K cf r)):PSs X (.Expr e pos::rest) (tS X.K cf (.expr ce r)):=by refine PSs.imp (zaY (znH he (zgq hc _ _ _)) hr) λE σ H z=>?_;let⟨δ,ι,S,Q,hs,hh,w,l⟩:=z;change W (Out.bind _ _) _ at w;simp![zab] at w;refine tE.run hs hh w λd v ι1 H1 S1 x1 hs1 hh1 r1 w1=>?_;exact⟨δ,ι1,S1,Q,hs1,hh1,w1,l.up x1⟩
def zpe(he:PE X e (tE X.K cf ce))(hr:PSs X rest (tS X.K cf r)):PSs X (.Return (Φ e) pos::rest) (tS X.K cf (.ret ce r)):=by refine PSs.imp (zaY (zpU he) hr) λE σ H z=>?_;let⟨δ,ι,S,Q,hs,hh,w,l⟩:=z;change W (Out.bind _ _) _ at w;simp![zab,W_ok] at w;refine tE.run hs hh w λd v ι1 H1 S1 x1 hs1 hh1 r1 w1=>?_;exact l _ _ _ _ x1 hh1 w1 v r1
def zrv(hc:PT X c (tT X.K cf cc))(ha:PSs X a (tS X.K cf ca))(hb:PSs X b (tS X.K cf cb))(hr:PSs X rest (tS X.K cf r)):PSs X (.If c a b pos::rest) (tS X.K cf (.ifS cc ca cb r)):=by
 refine PSs.imp (zaY (zrJ hc ha hb) hr) λE σ H k=>?_;let⟨δ,ι,S,Q,hs,hh,w,l⟩:=k;change W (Out.bind _ _) _ at w;simp![zab] at w;refine tT.run hs hh w λz ι1 H1 S1 x1 hs1 hh1 w1=>?_;have fin:LfS X.K ι1 H1 (λf S2=>W (match f with|.nx δ'=>exS cf r δ' S2|.rt d=>.ok (.rt d) S2) Q) {E with nx:=tS X.K cf r E}:=by intro f ι2 H2 S2 x2 hh2 q;cases f with|nx δ'=>exact λσ' hs'=>⟨δ',ι2,S2,Q,hs',hh2,q,(l.up x1).up x2⟩|rt d=>exact λv rv=>(l.up x1) _ _ _ _ x2 hh2 q v rv
 cases z with|true=>exact⟨δ,ι1,S1,_,hs1,hh1,w1,fin⟩|false=>exact⟨δ,ι1,S1,_,hs1,hh1,w1,fin⟩
abbrev FInv(K:Frag)(cf:CF)(g:List Nat)(b:CS)(Qf:Fl->R.St->Prop)(ds:List D)(lks:List Nat)(ι1:List Addr)(H1:Hp)(S1:R.St)(i:Nat)(σ':L2.St)(H':Hp):Prop:=i<=ds.length/\∃δ' ι' S',RS K ι' H' δ' σ'/\Ltr K ι1 H1 S1 lks ι' H' S'/\S'.lk=lks++S1.lk/\S1.len<=S'.len/\W (zbx g (exS cf b) (ds.drop i) δ' S') λf S2=>Qf f {S2 with lk:=S1.lk}
def zpg(G:Gd T cf k N sc X)(hi:PI X tg iter (tI X.K cf it))(hg:PG X tg (tG X.K is))(hb:PSs X body (tS X.K cf cb))(hset:zaS iter=Δ)(hr:PSs X rest (tS X.K cf r)):
  PSs X (.For tg iter body [] pos::rest) (tS X.K cf (.forS is it cb r)):=by
 have hp:PassesOwn (model X.prog X.w) X.A X.env X.xe:=by rw[G.xe];exact PassesOwn.never
 refine PSs.imp (zaY (zpV hp G.calm hi hg hb (zgS hset X.env)) hr) λE σ H y=>?_;let⟨δ,ι,S,Q,hs,hh,w,l⟩:=y;change W (Out.bind _ _) _ at w;simp![zab] at w;refine⟨δ,ι,S,_,hs,hh,w,λJ H1 y=>?_⟩;let⟨ds,lks,ι1,S1,x1,hh1,w1,wk⟩:=y;dsimp only at w1;unfold zbe at w1;rw[zab]at w1;simp![W_ok]at w1;refine⟨λi m σ' H'=>m=ds.length-i/\FInv X.K cf is cb (λf S2=>W (match f with|.nx δ'=>exS cf r δ' S2|.rt d=>.ok (.rt d) S2) Q) ds lks ι1 H1 S1 i σ' H',⟨_,rfl,zero_le _,δ,ι1,{S1 with lk:=lks++S1.lk},hs.ext x1,⟨Ext.refl _ _,hh1.lk _,λl _=>rfl⟩,rfl,le_refl _,w1⟩,?_⟩;rintro i m σ' H' ⟨rfl,hle,δ',ι',S',hs',lt,hlk,hln,wt⟩;have l1:=l.up (x1.trans lt.ext);rcases Nat.lt_or_eq_of_le hle with hlt|rfl;refine .inr ⟨wk.go i ι' H' S' lt hlt,FInv X.K cf is cb _ ds lks ι1 H1 S1 (i+1),λσ2 H2 h=>⟨_,by omega,rfl,h⟩,λx H2 hy=>?_⟩;let⟨x2,hh2,d,hd,rd⟩:=wk.yld i ι' H' S' x H2 lt hlt hy;rw[zf6 hd]at wt;simp![zbx]at wt;cases ea:asgG is d δ' with|none=>rw[ea]at wt;exact wt.elim| some δ2=>rw[ea]at wt;dsimp only at wt;rw[zab]at wt;refine⟨δ',ι',d,δ2,hs'.ext x2,rd,ea,λσ2 hs3=>⟨δ2,ι',S',_,hs3,hh2,(frS G.tab.frm cb δ2 S').w wt,?_⟩⟩;rintro f ι3 H3 S3 x3 hh3 ⟨w3,f3⟩;have k1:S3.lk=lks++S1.lk:=f3.lk.trans hlk;have k3:∀l∈lks,S3.get l=S1.get l:=λl hl=>(f3.same l (by rw[hlk];exact mem_append_left _ hl) (lt_of_lt_of_le (wk.lks l hl) hln)).trans (lt.lck l hl);cases f with|nx δ3=>exact λσ3 hs4=>⟨hlt,δ3,ι3,S3,hs4,⟨(lt.ext.trans x2).trans x3,hh3,k3⟩,k1,le_trans hln f3.lens,w3⟩|rt z=>exact λv rv=>l1 _ _ _ _ (x2.trans x3) (hh3.lk _) w3 v rv
 refine .inl ⟨wk.stop _ ι' H' S' lt (le_refl _),?_⟩;rw[List.drop_length]at wt;simp![zbx,W_ok]at wt;exact⟨δ',ι',{S' with lk:=S1.lk},Q,hs',lt.rh.lk _,wt,l1⟩
abbrev zsr(H:Hp)(a:Addr)(y v:V)(H':Hp):Prop:=DPut H a y v H'\/(∃kxs k c,H a=Φ (.ext (TriO a kxs))/\TriK H kxs/\y=.ref c/\Key3 H k c/\kxs.length<sizeLine/\H'=upd H a (.ext (TriO a (put3 kxs k c v))))\/∃xs k j,H a=Φ (.lst xs)/\y=.int k/\L2.ixN xs.length k=Φ j/\H'=upd H a (.lst (xs.set j v))
abbrev zpI(td ty tv:TE):TS:=λD σ H=>tv σ H λv H1=>td σ H1 λx H2=>ty σ H2 λy H3=>∃a H4,x=.ref a/\zsr H3 a y v H4/\D.nx σ H4
def zli(hu:X.A.units+5<cLine)(ho:PE X o td)(hi:PE X i ty)(hv:PE X value tv)(hs:swapsWith value (Φ (.Subscript o i pos')) pos.line X.env=pure Θ):
  PS X (.Assign [.Subscript o i pos'] value pos) (zpI td ty tv):=by
 intro pins s σ H D I h;refine wpAny_Assign_Subscript (thn (hv pins s σ H _ I h) λr s1 z=>eY z λv H1 I1 rv q1=>thn (ho pins s1 σ H1 _ I1 q1) λu s2 z=>eY z λx H2 I2 rx q2=>thn (hi pins s2 σ H2 _ I2 q2) λiv s3 q'=>?_) hs;let⟨y,H3,I3,ry,a,H4,ex,g,q3⟩:=q';subst ex;obtain rfl:u=Ω.ref a:=rx;rcases g with g|⟨kxs,k,c,e,tk,rfl,ek,hl,rfl⟩|⟨xs,k,j,e,ey,ej,rfl⟩;exact zkB (by lia) I3 g ry rv λs4 I4=>⟨σ,H4,I4,q3⟩;obtain rfl:iv=Ω.ref c:=ry;exact ziy hu I3 e tk ek hl rv λs4 I4=>⟨σ,_,I4,q3⟩;exact Ϥ (zkX pins s3 σ H3 (.ref a) y v (.ref a) iv r (λH'=>D.nx σ H') I3 rfl ry rv ⟨a,xs,k,j,rfl,ey,e,ej,q3⟩) (λ_ s4 p=>(by let⟨H',I4,q⟩:=p;exact ⟨σ,H',I4,q⟩)) λ_ _ z=>z
def zkU(G:Gd T cf k N sc X)(ha:PE X a (tE X.K cf ca))(hb:PE X b (tE X.K cf cb))(he:PE X e (tE X.K cf ce))(hc:zbJ e=Δ)(hr:PSs X rest (tS X.K cf r)):
  PSs X (.Assign [.Subscript a b p] e pos::rest) (tS X.K cf (.setIx ca cb ce r)):=by
 refine PSs.imp (zaY (zli (by have:=G.hu;lia) ha hb he (zgq hc _ _ _)) hr) λE σ H z=>?_;let⟨δ,ι,S,Q,hs,hh,w,l⟩:=z;change W (Out.bind _ _) _ at w;simp![zab] at w;refine tE.run hs hh w λd v ι1 H1 S1 x1 hs1 hh1 r1 w1=>?_;refine tE.run hs1 hh1 w1 λx vx ι2 H2 S2 x2 hs2 hh2 r2 w2=>?_;refine tE.run hs2 hh2 w2 λy vy ι3 H3 S3 x3 hs3 hh3 r3 w3=>?_;cases ed:dPut S3 x y d with
 |none=>rw[ed]at w3;exact w3.elim| some S4=>
  rw[ed]at w3;unfold dPut at ed;cases x with
  |ref i=>
   let⟨p,h1,rfl⟩:=r2.ext x3;dsimp only at ed;cases e:S3.get i with
   |none=>rw[e]at ed;exact nS ed
   |some ob=>
    rw[e]at ed;let⟨b,h2,h3⟩:=hh3.obj _ _ e;rw[h1]at h2;cases h2;cases ob with
    |d3 kvs=>
     let⟨nd,ws,ha,rk⟩:=h3;dsimp only at ed;cases ek:key3 y with
     |none=>rw[ek]at ed;exact nS ed
     |some k=>rw[ek]at ed;dsimp only[bind_some]at ed;split at ed;rename_i c;let⟨b,rfl,hb⟩:=zj5 r3 ek;have rv:=r1.ext (x2.trans x3);have xw:=Ext.wr hh3 e h1 (.ext (TriO p (put3 ws k b v)));refine⟨p,_,rfl,.inr <| .inl ⟨ws,k,b,ha,rk.triK,rfl,hb,by rw[rk.length,ϑ];exact c,rfl⟩,δ,ι3,S4,Q,hs3.ext xw,hh3.wr e h1 ed ⟨zgI nd,_,zap,?_⟩,w3,l.up (((x1.trans x2).trans x3).trans xw)⟩;exact(rk.put rv hb).up xw.pre xw.kp;exact nS ed
    |lst ds=>
     let⟨xs,ha,rx⟩:=h3;dsimp only at ed;cases y with
     |int k=>
      obtain rfl:vy=.int k:=r3;dsimp only[zea,bind_some]at ed;cases ej:R.ixN ds.length k with
      |none=>rw[ej]at ed;exact nS ed
      |some j=>rw[ej,bind_some]at ed;have rv:=r1.ext (x2.trans x3);have xw:=Ext.wr hh3 e h1 (.lst (xs.set j v));refine⟨p,_,rfl,.inr <| .inr ⟨xs,k,j,ha,rfl,by rw[rx.length];exact ej,rfl⟩,δ,ι3,S4,Q,hs3.ext xw,hh3.wr e h1 ed ⟨_,zap,?_⟩,w3,l.up (((x1.trans x2).trans x3).trans xw)⟩;exact(RVs.set rv j rx).up xw.pre xw.kp
     |_=>exact nS ed
    |_=>exact nS ed
  |_=>exact nS ed
def zkT(e)(l)(env):swapsWith e (Φ (.Attribute o f p)) l env=pure Θ:=by cases e<;>rfl
def zm3(G:Gd T cf k N sc X)(hf:T.flds.contains f=Δ)(ha:PE X a (tE X.K cf ca))(he:PE X e (tE X.K cf ce))(hr:PSs X rest (tS X.K cf r)):
  PSs X (.Assign [.Attribute a f p] e pos::rest) (tS X.K cf (.setF ca f ce r)):=by
 refine PSs.imp (zaY (zpW ha he (zkT _ _ _)) hr) λE σ H z=>?_;let⟨δ,ι,S,Q,hs,hh,w,l⟩:=z;change W (Out.bind _ _) _ at w;simp![zab] at w;refine tE.run hs hh w λd v ι1 H1 S1 x1 hs1 hh1 r1 w1=>?_;refine tE.run hs1 hh1 w1 λx vx ι2 H2 S2 x2 hs2 hh2 r2 w2=>?_;cases ed:zbF S2 x f d with
 |none=>rw[ed]at w2;exact w2.elim| some S3=>
  rw[ed]at w2;unfold zbF at ed;cases x with
  |ref i=>
   let⟨b,h1,rfl⟩:=r2;dsimp only at ed;cases eo:S2.get i with
   |none=>rw[eo]at ed;exact nS ed
   |some ob=>
    rw[eo]at ed;cases ob with
    |ins c fs=>let⟨b',h2,C,dx,ws,hC,hb,rf⟩:=hh2.obj _ _ eo;rw[h1]at h2;cases h2;dsimp only at ed;split at ed;rename_i c2;let⟨_,_,cl,_,na⟩:=G.clsAt (.inl (ne_of hf)) hC;have rv:=r1.ext x2;have xw:=Ext.wr hh2 eo h1 (.ins C dx (putF f v ws));refine⟨b,C,dx,ws,rfl,hb,cl,na f hf,by rw[rf.length];exact c2,δ,ι2,S3,Q,hs2.ext xw,hh2.wr eo h1 ed ⟨C,dx,_,hC,zap,(rf.put f rv).up xw.pre xw.kp⟩,w2,l.up ((x1.trans x2).trans xw)⟩;exact nS ed
    |_=>exact nS ed
  |_=>exact nS ed
def zm6(G:Gd T cf k N sc X)(hn:zcf sc N is es=Δ)(h2:2<=is.length)(he:PE X e (tE X.K cf ce))(hx:(∃x q,e=.Name x q)\/∃f as ks q,e=.Call f as ks q)(hr:PSs X rest (tS X.K cf r)):
  PSs X (.Assign [.Tuple es j p] e pos::rest) (tS X.K cf (.asgT is ce r)):=by
 have hs:swapsWithSole [.Tuple es j p] e pos.line X.env=pure Θ:=by rcases hx with⟨x,q,rfl⟩|⟨f,as,ks,q,rfl⟩<;>rfl
 have hw:swappedStores [.Tuple es j p] e X.env=pure Ψ:=by rcases hx with⟨x,q,rfl⟩|⟨f,as,ks,q,rfl⟩<;>rfl
 refine PSs.imp (zaY (zpX he (zme G hn h2) hs hw) hr) λE σ H z=>?_;let⟨δ,ι,S,Q,hs,hh,w,l⟩:=z;change W (Out.bind _ _) _ at w;simp![zab] at w;refine tE.run hs hh w λd v ι1 H1 S1 x1 hs1 hh1 r1 w1=>?_;let⟨δ2,ea,w2⟩:=zaA w1;exact⟨δ,ι1,d,δ2,hs1,r1,ea,λσ' hs'=>⟨δ2,ι1,S1,Q,hs',hh1,w2,l.up x1⟩⟩
end
abbrev zod:CL->Bool|.comp ..=>Δ|_=>Θ
abbrev isR1:CL->Bool|.rng1 _=>Δ|_=>Θ
abbrev zis:CL->Bool|.rng1 _=>Δ|.rng2 _ _=>Δ|.enum _=>Δ|_=>Θ
abbrev zj8:CL->Bool|.enum _=>Δ|_=>Θ
set_option backward.match.sparseCases false
abbrev zj9:Expr->Bool|.Tuple _ _ _=>Δ|_=>Θ
abbrev zbD:Expr->List Str
 |.Name x _=>[x]|.Tuple es _ _=>es.filterMap λ|.Name x _=>Φ x|_=>Ψ
 |_=>[]
set_option backward.match.sparseCases true
abbrev zoB(sc scope:Scope)(N:List Str)(js:List Nat):Bool:=
 decide (scope.kind=.function)&&scope.names.all (λy=>decide (y.2≠.cell))&&scope.names.all (λy=>decide (y.2≠.local)||decide (scope.names.lookup y.1=Φ .local))
  && scope.names.all (λy=>decide (y.2≠.free)||decide (sc.names.lookup y.1=Φ .cell)||decide (sc.names.lookup y.1=Φ .free))&&js.all (λj=>decide (scope.names.lookup (N.getD j "")=Φ .free)&&decide (j<N.length))
abbrev nmB(x:Str):Bool:=!(x==("__debug__":Str))&&!(x==("__classdict__":Str))&&!(x==("__name__":Str))
abbrev tyB(t:String)(y:Str):Bool:=(t=="bool"&&y==("bool":Str))||(t=="int"&&y==("int":Str))||(t=="str"&&y==("str":Str))||(t=="list"&&y==("list":Str))||(t=="tuple"&&y==("tuple":Str))||(t=="dict"&&y==("dict":Str))
abbrev biB:Bi->Str->Nat->Bool
 |.len,x,n=>x==("len":Str)&&n==1|.abs,x,n=>x==("abs":Str)&&n==1|.max2,x,n=>x==("max":Str)&&n==2|.min2,x,n=>x==("min":Str)&&n==2|.isin _,_,_=>Θ
set_option backward.match.sparseCases false
abbrev zby:Expr->Option Str|.Name x _=>Φ x|_=>Ψ
abbrev zdw:Expr->Option Const|.Constant c _ _=>Φ c|_=>Ψ
abbrev zjk:Expr->Option (Expr×Operator×Expr)|.BinOp l o r _=>Φ (l,o,r)|_=>Ψ
abbrev rdUn:Expr->Option (UnaryOp×Expr)|.UnaryOp o x _=>Φ (o,x)|_=>Ψ
abbrev zfy:Expr->Option (Expr×List CmpOp×List Expr)|.Compare l os rs _=>Φ (l,os,rs)|_=>Ψ
abbrev zcZ:Expr->Option (BoolOp×List Expr×Pos)|.BoolOp o vs p=>Φ (o,vs,p)|_=>Ψ
abbrev rdIf:Expr->Option (Expr×Expr×Expr)|.IfExp t x y _=>Φ (t,x,y)|_=>Ψ
abbrev zgv:Expr->Option (List Expr)|.Tuple xs _ _=>Φ xs|_=>Ψ
abbrev zfx:Expr->Option (List Expr)|.List xs _=>Φ xs|_=>Ψ
abbrev zgx:Expr->Option (Expr×Expr)|.Dict [Φ k] [v] _=>Φ (k,v)|_=>Ψ
abbrev zdv:Expr->Bool|.Dict ks vs _=>ks.isEmpty&&vs.isEmpty|_=>Θ
abbrev zfw:Expr->Option (Expr×Expr)|.Subscript x i _=>Φ (x,i)|_=>Ψ
set_option backward.match.sparseCases true
abbrev znt:Expr->Option Expr|.Slice Ψ Ψ (Φ s) _=>Φ s|_=>Ψ
set_option backward.match.sparseCases false
abbrev rdSl:Expr->Option (Option Expr×Option Expr)|.Slice l u st _=>(match st with|none=>Φ (l,u)|some _=>Ψ)|_=>Ψ
abbrev zcb:Expr->Option (Expr×List Expr×List Keyword×Pos)|.Call f as ks p=>Φ (f,as,ks,p)|_=>Ψ
abbrev zcc:Expr->Option (Expr×Str×Pos)|.Attribute o x p=>Φ (o,x,p)|_=>Ψ
abbrev rdLC:Expr->Option (Expr×List Comprehension×Scope×Pos)|.ListComp e gs sc p=>Φ (e,gs,sc,p)|_=>Ψ
set_option backward.match.sparseCases true
section
variable{e l r x y i f:Expr}{xs rs as:List Expr}{ks:List Keyword}{p:Pos}
def zaU(h:zby e=Φ n):∃p,e=.Name n p:=by cases e<;>first|(cases h;exact⟨_,rfl⟩)|exact nS h
def zgz(h:zdw e=Φ c):∃j p,e=.Constant c j p:=by cases e<;>first|(cases h;exact⟨_,_,rfl⟩)|exact nS h
def zjj(h:zjk e=Φ (l,o,r)):∃p,e=.BinOp l o r p:=by cases e<;>first|(cases h;exact⟨_,rfl⟩)|exact nS h
def zeN(h:rdUn e=Φ (o,x)):∃p,e=.UnaryOp o x p:=by cases e<;>first|(cases h;exact⟨_,rfl⟩)|exact nS h
def zcy{os}(h:zfy e=Φ (l,os,rs)):∃p,e=.Compare l os rs p:=by cases e<;>first|(cases h;exact⟨_,rfl⟩)|exact nS h
def zbZ(h:zcZ e=Φ (o,xs,p)):e=.BoolOp o xs p:=by cases e<;>first|(cases h;rfl)|exact nS h
def zle(h:rdIf e=Φ (l,x,y)):∃p,e=.IfExp l x y p:=by cases e<;>first|(cases h;exact⟨_,rfl⟩)|exact nS h
def zdt(h:zgv e=Φ xs):∃j p,e=.Tuple xs j p:=by cases e<;>first|(cases h;exact⟨_,_,rfl⟩)|exact nS h
def zhZ(h:zfx e=Φ xs):∃p,e=.List xs p:=by cases e<;>first|(cases h;exact⟨_,rfl⟩)|exact nS h
def zgy(h:zdv e=Δ):∃p,e=.Dict [] [] p:=by
 cases e with
 |Dict ks vs p=>
  cases ks with
  |cons _ _=>exact nB h
  |nil=>
   cases vs with
   |cons _ _=>exact nB h
   |nil=>exact⟨_,rfl⟩
 |_=>exact nB h
def zcx(h:zfw e=Φ (x,i)):∃p,e=.Subscript x i p:=by cases e<;>first|(cases h;exact⟨_,rfl⟩)|exact nS h
def zje(h:znt e=Φ b):∃p,e=.Slice Ψ Ψ (Φ b) p:=by unfold znt at h;split at h<;>first|(cases h;exact⟨_,rfl⟩)|exact nS h
def zld(h:rdSl e=Φ (a,b)):∃p,e=.Slice a b Ψ p:=by
 cases e with
 |Slice l u st p=>cases st with|none=>cases h;exact⟨_,rfl⟩|some _=>exact nS h
 |_=>exact nS h
def zcP(h:zcb e=Φ (f,as,ks,p)):e=.Call f as ks p:=by cases e<;>first|(cases h;rfl)|exact nS h
def zb0(h:zcc e=Φ (x,n,p)):e=.Attribute x n p:=by cases e<;>first|(cases h;rfl)|exact nS h
def zhi(h:rdLC e=Φ (x,gs,sc,p)):e=.ListComp x gs sc p:=by cases e<;>first|(cases h;rfl)|exact nS h
end
def zaa{a:Type}{o:Option a}{f:a->Bool}(h:o.any f=Δ):∃x,o=Φ x/\f x=Δ:=by
 cases o with
 |none=>exact nB h
 |some x=>exact⟨x,rfl,h⟩
abbrev one{α:Type}:List α->Option α | [x]=>Φ x|_=>Ψ
def zbh(h:one xs=Φ x):xs=[x]:=by match xs,h with| [y],h=>cases h;rfl
abbrev two{α:Type}:List α->Option (α×α) | [x,y]=>Φ (x,y)|_=>Ψ
def two_inv(h:two xs=Φ (x,y)):xs=[x,y]:=by match xs,h with| [a,b],h=>cases h;rfl
abbrev za1(e:Expr):Option (Str×List Expr):=(zcb e).bind λq=>if q.2.2.1.isEmpty then(zby q.1).map λx=>(x,q.2.1) else Ψ
def zaV(h:za1 e=Φ (x,as)):∃p2 p,e=.Call (.Name x p2) as [] p:=by
 unfold za1 at h;cases q:zcb e with
 |none=>rw[q]at h;exact nS h
 |some z=>
  let⟨f,bs,ks,p⟩:=z;rw[q]at h;dsimp only[bind_some]at h;split at h;rename_i c;cases q2:zby f with
  |none=>rw[q2]at h;exact nS h
  |some y=>
   rw[q2]at h;let⟨p2,rfl⟩:=zaU q2;cases ks with
   |cons _ _=>exact nB c
   |nil=>cases h;exact⟨p2,p,zcP q⟩
  exact nS h
abbrev zaC(e:Expr):Option (Str×Expr):=(za1 e).bind λq=>(one q.2).map λa=>(q.1,a)
def zaq(h:zaC e=Φ (x,a)):∃p2 p,e=.Call (.Name x p2) [a] [] p:=by
 unfold zaC at h;cases q:za1 e with
 |none=>rw[q]at h;exact nS h
 |some z=>
  let⟨y,bs⟩:=z;rw[q]at h;dsimp only[bind_some]at h;cases q2:one bs with
  |none=>rw[q2]at h;exact nS h
  |some b=>rw[q2]at h;cases h;rw[zbh q2]at q;exact zaV q
abbrev zdu(e:Expr):Option (Expr×Str×Pos×Expr×Pos):=(zcb e).bind λq=>if q.2.2.1.isEmpty then(zcc q.1).bind λa=>(one q.2.1).map λy=>(a.1,a.2.1,a.2.2,y,q.2.2.2) else Ψ
def zeh(h:zdu e=Φ (o,x,ap,a,cp)):e=.Call (.Attribute o x ap) [a] [] cp:=by
 unfold zdu at h;cases q:zcb e with
 |none=>rw[q]at h;exact nS h
 |some z=>
  let⟨f,bs,ks,p⟩:=z;rw[q]at h;dsimp only[bind_some]at h;split at h;rename_i c;cases q2:zcc f with
  |none=>rw[q2]at h;exact nS h
  |some y=>
   let⟨o',x',ap'⟩:=y;rw[q2]at h;dsimp only[bind_some]at h;cases q3:one bs with
   |none=>rw[q3]at h;exact nS h
   |some b=>
    rw[q3]at h;cases h;cases ks with
    |cons _ _=>exact nB c
    |nil=>rw[zcP q,zb0 q2,zbh q3]
  exact nS h
abbrev zcO(e:Expr):Option (Expr×Str×Pos×List Expr×Pos):=(zcb e).bind λq=>if q.2.2.1.isEmpty then(zcc q.1).map λa=>(a.1,a.2.1,a.2.2,q.2.1,q.2.2.2) else Ψ
def zgw(h:zcO e=Φ (o,x,ap,as,cp)):e=.Call (.Attribute o x ap) as [] cp:=by
 unfold zcO at h;cases q:zcb e with
 |none=>rw[q]at h;exact nS h
 |some z=>
  let⟨f,bs,ks,p⟩:=z;rw[q]at h;dsimp only[bind_some]at h;split at h;rename_i c;cases q2:zcc f with
  |none=>rw[q2]at h;exact nS h
  |some y=>
   let⟨o',x',ap'⟩:=y;rw[q2]at h;cases h;cases ks with
   |cons _ _=>exact nB c
   |nil=>rw[zcP q,zb0 q2]
  exact nS h
abbrev fnB(T:Tab)(f j:Nat)(x:Str):Bool:=match T.fns[f]? with|some (y,_,nd)=>(y==x)&&decide (j<=nd)|none=>Θ
abbrev conG(T:Tab)(d:D)(x:Str):Bool:=match T.cons.lookup x with|some d'=>eqC d' d|none=>Θ
set_option backward.match.sparseCases false in
abbrev zkb:CE->Bool|.con _=>Δ|_=>Θ
abbrev zof:CL->Bool|.comp ..=>Δ|_=>Θ
set_option backward.match.sparseCases false in
abbrev zka:CE->Bool|.tst (.con (.bl Δ))=>Δ|_=>Θ
abbrev znU:CEs->Bool|.cons _ .nil=>Δ|_=>Θ
abbrev znX:CEs->Bool|.nil=>Δ|_=>Θ
abbrev mtN:Mt->Str->Bool
 |.append,x=>x==("append":Str)|.popAt,x=>x==("pop":Str)|.count,x=>x==("count":Str)
abbrev zr7:Bi->Option String|.isin t=>Φ t|_=>Ψ
abbrev tgB(sc:Scope)(N:List Str)(g:List Nat)(tg:Expr):Bool:=match zby tg with|some x=>(match one g with|some i=>(N[i]?==Φ x)&&zfU sc x|none=>Θ)|none=>(zgv tg).any λes=>decide (2<=g.length)&&zcf sc N g es
mutual
noncomputable def chkE(T:Tab)(e₀:CE)(N:List Str)(sc:Scope)(e:Expr):Bool:=match e₀ with
 |.loc i=>(zby e).any λx=>(N[i]?==Φ x)&&zlI sc x&&nmB x|.con d=>(zdw e).any (λc=>conB d c)||(zby e).any λx=>isGl sc x&&conG T d x&&nmB x
 |.tst _=>Θ|.bin op a b=>(zjk e).any λq=>decide (q.2.1=op)&&chkE T a N sc q.1&&chkE T b N sc q.2.2|.neg a=>(rdUn e).any λq=>decide (q.1=.USub)&&chkE T a N sc q.2|.nt a=>(rdUn e).any λq=>decide (q.1=.Not)&&chkE T a N sc q.2|.cmp op a b=>(zfy e).any λq=>decide (q.2.1=[op])&&(one q.2.2).any λr=>zaS r&&chkE T a N sc q.1&&chkE T b N sc r|.cmp2 op op' a b c=>(zfy e).any λq=>decide (q.2.1=[op,op'])&&(two q.2.2).any λr=>zaS r.1&&zaS r.2&&chkE T a N sc q.1&&chkE T b N sc r.1&&chkE T c N sc r.2
 |.and a b=>(zcZ e).any λq=>decide (q.1=.And)&&(match q.2.1 with
  |x::y::rest=>chkE T a N sc x&&(if rest.isEmpty then chkE T b N sc y else chkE T b N sc (.BoolOp .And (y::rest) q.2.2))|_=>Θ)
 |.or a b=>(zcZ e).any λq=>decide (q.1=.Or)&&(match q.2.1 with
  |x::y::rest=>chkE T a N sc x&&(if rest.isEmpty then chkE T b N sc y else chkE T b N sc (.BoolOp .Or (y::rest) q.2.2))|_=>Θ)
 |.ite c a b=>(rdIf e).any λq=>chkT T c N sc q.1&&chkE T a N sc q.2.1&&chkE T b N sc q.2.2|.tup es=>(zgv e).any λxs=>zbO T es N sc xs|.lst es=>(zfx e).any λxs=>zbO T es N sc xs|.dnew3=>zdv e|.fld a f=>(zcc e).any λq=>decide (q.2.1=f)&&zcd q.1&&T.flds.contains f&&chkE T a N sc q.1|.mk c f x j es=>(za1 e).any λq=>decide (q.1=x)&&isGl sc x&&nmB x&&decide (T.cls[c]?=Φ x)&&T.inits.contains (c,f,j)&&(!q.2.isEmpty||znX es)&&zbO T es N sc q.2|.meth m tb o es=>(zcO e).any λq=>decide (q.2.1=m)&&mtB T m tb&&zcd q.1&&(q.2.2.1.endLine==q.2.2.2.2.line)&&decide (q.2.2.2.1.length<29)&&(!q.2.2.2.1.isEmpty||znX es)&&chkE T o N sc q.1&&zbO T es N sc q.2.2.2.1|.ix a b=>(zfw e).any λq=>zeZ q.2&&chkE T a N sc q.1&&chkE T b N sc q.2|.slS a b=>(zfw e).any λq=>(znt q.2).any λs=>chkE T a N sc q.1&&chkE T b N sc s
 |.sl a ml mh lo hi=>(zfw e).any λq=>(rdSl q.2).any λs=>chkE T a N sc q.1
  && (match s.1 with|none=>!ml&&zkb lo|some e=>ml&&chkE T lo N sc e)
  && (match s.2 with|none=>!mh&&zkb hi|some e=>mh&&chkE T hi N sc e)
 |.call f j es=>(za1 e).any λq=>isGl sc q.1&&nmB q.1&&fnB T f j q.1&&(!q.2.isEmpty||znX es)&&zbO T es N sc q.2
 |.bi b es=>(za1 e).any λq=>bltB T sc q.1&&nmB q.1&&(match zr7 b with
  |some t=>(two q.2).any λz=>(zby z.2).any λy=>(q.1==("isinstance":Str))&&tyB t y&&bltB T sc y&&nmB y&&znU es&&zbO T es N sc [z.1]|none=>biB b q.1 q.2.length&&!q.2.isEmpty&&zbO T es N sc q.2)
 |.mt m o es=>(zdu e).any λq=>mtN m q.2.1&&zcd q.1&&(q.2.2.1.endLine==q.2.2.2.2.line)&&znU es&&chkE T o N sc q.1&&zbO T es N sc [q.2.2.2.1]
 |.mkL l=>if zof l then(if(rdLC e).isSome then chkL T l N sc e else(zaC e).any λq=>(q.1==("list":Str))&&bltB T sc q.1&&zak q.2&&chkL T l N sc q.2)
  else(zaC e).any λq=>(q.1==("list":Str))&&bltB T sc q.1&&zak q.2&&(!(zis l)||isR1 l)&&chkL T l N sc q.2
 |.mkT l=>(zaC e).any λq=>(q.1==("tuple":Str))&&bltB T sc q.1&&zak q.2&&(!(zis l)||isR1 l)&&chkL T l N sc q.2|.all l=>(zaC e).any λq=>(q.1==("all":Str))&&bltB T sc q.1&&zak q.2&&!(zis l)&&chkL T l N sc q.2|.ext a l=>(zdu e).any λq=>(q.2.1==("extend":Str))&&zak q.2.2.2.1&&zcd q.1&&(q.2.2.1.endLine==q.2.2.2.2.line)&&zod l&&chkE T a N sc q.1&&chkL T l N sc q.2.2.2.1|.lenset l=>(zaC e).any λq=>(zaC q.2).any λz=>(q.1==("len":Str))&&bltB T sc q.1&&(z.1==("set":Str))&&bltB T sc z.1&&zak z.2&&!(zis l)&&chkL T l N sc z.2|.sset a=>(zaC e).any λq=>(zaC q.2).any λz=>(q.1==("sorted":Str))&&bltB T sc q.1&&(z.1==("set":Str))&&bltB T sc z.1&&zak z.2&&chkE T a N sc z.2|.ssetP a=>(zaC e).any λq=>(zaC q.2).any λz=>(q.1==("sorted":Str))&&bltB T sc q.1&&(z.1==("set":Str))&&bltB T sc z.1&&zak z.2&&chkE T a N sc z.2
noncomputable def zbO(T:Tab)(e₀:CEs)(N:List Str)(sc:Scope)(es:List Expr):Bool:=match e₀ with|.nil=>es.isEmpty|.cons a r=>(match es with | []=>Θ|e::es=>zak e&&chkE T a N sc e&&zbO T r N sc es)
noncomputable def chkT(T:Tab)(e₀:CE)(N:List Str)(sc:Scope)(e:Expr):Bool:=match e₀ with
 |.cmp op a b=>(zfy e).any λq=>decide (q.2.1=[op])&&(one q.2.2).any λr=>zaS r&&chkE T a N sc q.1&&chkE T b N sc r|.cmp2 op op' a b c=>(zfy e).any λq=>decide (q.2.1=[op,op'])&&(two q.2.2).any λr=>zaS r.1&&zaS r.2&&chkE T a N sc q.1&&chkE T b N sc r.1&&chkE T c N sc r.2|.nt a=>(rdUn e).any λq=>decide (q.1=.Not)&&chkT T a N sc q.2
 |.and a b=>(zcZ e).any λq=>decide (q.1=.And)&&(match q.2.1 with
  |x::y::rest=>chkT T a N sc x&&(if rest.isEmpty then chkT T b N sc y else chkT T b N sc (.BoolOp .And (y::rest) q.2.2))|_=>Θ)
 |.or a b=>(zcZ e).any λq=>decide (q.1=.Or)&&(match q.2.1 with
  |x::y::rest=>chkT T a N sc x&&(if rest.isEmpty then chkT T b N sc y else chkT T b N sc (.BoolOp .Or (y::rest) q.2.2))|_=>Θ)
 |.tst a=>zhl e&&chkE T a N sc e|_=>Θ
noncomputable def chkL(T:Tab):CL->List Str->Scope->Expr->Bool
 |.val a,N,sc,e=>zaS e&&chkE T a N sc e|.rng1 a,N,sc,e=>(zaC e).any λq=>(q.1==("range":Str))&&bltB T sc q.1&&zak q.2&&chkE T a N sc q.2|.rng2 a b,N,sc,e=>(za1 e).any λq=>(two q.2).any λz=>(q.1==("range":Str))&&bltB T sc q.1&&zak z.1&&zak z.2&&chkE T a N sc z.1&&chkE T b N sc z.2|.enum a,N,sc,e=>(zaC e).any λq=>(q.1==("enumerate":Str))&&bltB T sc q.1&&zak q.2&&chkE T a N sc q.2
 |.comp nt js g it c e,N,sc,ex=>(rdLC ex).any λq=>(one q.2.1).any λz=>decide (z.is_async=0)&&zoB sc q.2.2.1 N js&&(zaS z.iter&&(zj9 z.target||!(zj8 it)))&&chkL T it N sc z.iter&&decide ((zbD z.target).length=nt)&&decide ((capN N (zbD z.target) js).Nodup/\capN N (zbD z.target) js≠T.lam)
  && tgB q.2.2.1 (capN N (zbD z.target) js) g z.target
  && (if z.ifs.isEmpty then zka c else(one z.ifs).any λt=>chkT T c (capN N (zbD z.target) js) q.2.2.1 t)
  && chkE T e (capN N (zbD z.target) js) q.2.2.1 q.1
end
abbrev zh0:Stmt->Option (Expr×Expr×Pos)|.Assign tgs v p=>(one tgs).map λt=>(t,v,p)|_=>Ψ
set_option backward.match.sparseCases false in
abbrev zpM:Stmt->Option (Expr×List Stmt×List Stmt)|.If e a b _=>Φ (e,a,b)|_=>Ψ
abbrev znv:Stmt->Option (Expr×Expr×List Stmt)|.For tg it b els _=>if els.isEmpty then Φ (tg,it,b) else Ψ|_=>Ψ
abbrev znu:Stmt->Option Expr|.Return v _=>v|_=>Ψ
set_option backward.match.sparseCases false in
abbrev zpN:Stmt->Option Expr|.Expr v _=>Φ v|_=>Ψ
section
variable{s:Stmt}{e v tg it:Expr}{a b:List Stmt}{p:Pos}
def zcz(h:zh0 s=Φ (tg,v,p)):s=.Assign [tg] v p:=by
 cases s with
 |Assign tgs v p=>
  simp![zh0]at h;cases q:one tgs with
  |none=>rw[q]at h;exact nS h
  |some t=>rw[q]at h;cases h;rw[zbh q]
 |_=>exact nS h
def zjg(h:zpM s=Φ (e,a,b)):∃p,s=.If e a b p:=by cases s<;>first|(cases h;exact⟨_,rfl⟩)|exact nS h
def zjh(h:znv s=Φ (tg,it,b)):∃p,s=.For tg it b [] p:=by
 cases s with
 |For tg it b els p=>simp![znv]at h;cases els with|nil=>cases h;exact⟨_,rfl⟩|cons _ _=>exact nS h
 |_=>exact nS h
def zjf(h:znu s=Φ e):∃p,s=.Return (Φ e) p:=by cases s with|Return v p=>simp![znu]at h;subst h;exact⟨_,rfl⟩|_=>exact nS h
def zji(h:zpN s=Φ e):∃p,s=.Expr e p:=by cases s<;>first|(cases h;exact⟨_,rfl⟩)|exact nS h
end
abbrev chkS(T:Tab)(e₀:CS)(N:List Str)(sc:Scope)(st:List Stmt):Bool:=match e₀ with|.nil=>st.isEmpty|.stop=>Δ|.asg i e r=>(match st with | []=>Θ|s::rest=>(zh0 s).any λq=>(zby q.1).any λx=>(N[i]?==Φ x)&&zfU sc x&&chkE T e N sc q.2.1&&chkS T r N sc rest)|.asgT g e r=>(match st with | []=>Θ|s::rest=>(zh0 s).any λq=>(zgv q.1).any λes=>((zby q.2.1).isSome||(za1 q.2.1).isSome)&&decide (2<=g.length)&&zcf sc N g es&&chkE T e N sc q.2.1&&chkS T r N sc rest)|.setIx a b e r=>(match st with | []=>Θ|s::rest=>(zh0 s).any λq=>(zfw q.1).any λz=>zbJ q.2.1&&chkE T a N sc z.1&&chkE T b N sc z.2&&chkE T e N sc q.2.1&&chkS T r N sc rest)|.setF a f e r=>(match st with | []=>Θ|s::rest=>(zh0 s).any λq=>(zcc q.1).any λz=>decide (z.2.1=f)&&T.flds.contains f&&chkE T a N sc z.1&&chkE T e N sc q.2.1&&chkS T r N sc rest)|.ifS c t u r=>(match st with | []=>Θ|s::rest=>(zpM s).any λq=>chkT T c N sc q.1&&chkS T t N sc q.2.1&&chkS T u N sc q.2.2&&chkS T r N sc rest)|.forS g l b r=>(match st with | []=>Θ|s::rest=>(znv s).any λq=>zaS q.2.1&&chkL T l N sc q.2.1&&chkS T b N sc q.2.2&&chkS T r N sc rest&&(tgB sc N g q.1&&(zj9 q.1||!(zj8 l))))|.ret e r=>(match st with | []=>Θ|s::rest=>(znu s).any λv=>chkE T e N sc v&&chkS T r N sc rest)|.expr e r=>(match st with | []=>Θ|s::rest=>(zpN s).any λv=>zbJ v&&chkE T e N sc v&&chkS T r N sc rest)
end R
section
set_option maxHeartbeats 8000000
namespace R
open PySem PySem.Spec PyProof.Rows L2
variable[Mks]
section
variable{T:Tab}{cf:CF}{k:Nat}{N:List Str}{sc:Scope}{X:Cx}
def zbK(env)(x):∀{names:List (Str×NameKind)}{k0:NameKind},names.lookup x=Φ k0->k0≠.free->(names.map (zb7 env)).lookup x=Φ k0
 | [],_,h,_=>by simp at h| y::r,k0,h,hk=>by
  rw[ϊ];have f1:=zds env y;have f2:=zdr env y;let⟨n,k1⟩:=y;generalize hz:zb7 env (n,k1)=z at *;let⟨zn,zk⟩:=z;simp only at f1 f2;subst f1;rw[lookup_cons]at h⊢;cases hx:x==zn with
  |true=>rw[hx]at h;have e:k1=k0:=Option.some.inj h;subst e;rcases f2 with f2|⟨q,_⟩;show Φ zk=_;rw[f2];exact absurd q hk
  |false=>rw[hx]at h;exact zbK env x h hk
def zhI(G:Gd T cf k N sc X)(h:zoB sc scope N js=Δ):CompOk X.env.scope scope X.N js:=by unfold zoB at h;simp![Β,all_eq_true,decide_eq_true_eq,Ϯ]at h;let⟨⟨⟨⟨h1,h2⟩,h3⟩,h4⟩,h5⟩:=h;refine⟨h1,h2,λy hy e=>?_,λy hy e=>?_,λj hj=>?_⟩;rcases h3 y hy with z|z;exact absurd e z;exact z;rcases h4 y hy with (z|z)|z;exact absurd e z;exact .inl (G.cell _ z);exact(G.free _ z).symm;rw[G.nm];exact h5 j hj
def zko(G:Gd T cf k N sc X)(ok:CompOk X.env.scope scope X.N js)(hn:(capN N tgs js).Nodup/\capN N tgs js≠T.lam)(cl)(C)(fp)(s)(H)(pn):
  Gd T cf k (capN N tgs js) scope (zaB X (capN X.N tgs js) scope cl C fp s H pn):=by
 have names:(zaB X (capN X.N tgs js) scope cl C fp s H pn).env.scope.names=scope.names.map (zb7 X.env):=zbr scope X.env;have noc:∀x,scope.names.lookup x≠Φ .cell:=λx e=>ok.nocell _ (PySem.mem_of_lookup e) rfl;refine⟨by rw[<-G.nm],hn.1,λx e=>?_,λx e=>absurd e (noc x),λx e=>?_,λx e=>?_,.inr noc,G.calm,rfl,G.room',G.tab,λz=>absurd z hn.2⟩;rw[names];exact zbK _ _ e (by decide);rw[names];exact zbs _ _ _ e;rw[names];exact zbK _ _ e (by decide)
def zei(h:nmB x=Δ):(x==("__debug__":Str))=Θ/\(x==("__classdict__":Str))=Θ/\x≠("__name__":Str):=by unfold nmB at h;simp![Β,not_eq_true']at h;exact⟨h.1.1,h.1.2,λe=>by rw[e]at h;simp at h⟩
def zoY(h:tyB t y=Δ):t∈["bool","int","str","list","tuple","dict"]/\bootBuiltins y=Φ (.type t):=by unfold tyB at h;simp![Ϯ,Β,beq_iff_eq]at h;rcases h with ((((⟨rfl,rfl⟩|⟨rfl,rfl⟩)|⟨rfl,rfl⟩)|⟨rfl,rfl⟩)|⟨rfl,rfl⟩)|⟨rfl,rfl⟩;exact⟨by simp,zoF⟩;exact⟨by simp,zrb⟩;exact⟨by simp,zq8⟩;exact⟨by simp,zg0⟩;exact⟨by simp,zff⟩;exact⟨by simp,zoE⟩
def zqZ(h:fnB T f j x=Δ):∃ps nd,T.fns[f]?=Φ (x,ps,nd)/\j<=nd:=by
 unfold fnB at h;cases e:T.fns[f]? with
 |none=>rw[e]at h;exact nB h
 |some q=>let⟨y,ps,nd⟩:=q;rw[e]at h;simp![Β,beq_iff_eq,decide_eq_true_eq]at h;let⟨rfl,h2⟩:=h;exact⟨ps,nd,rfl,h2⟩
def zaX:∀{ces:CEs}{N:List Str}{sc:Scope}{es:List Expr},zbO T ces N sc es=Δ->es.all zak=Δ
 |.nil,N,sc,es,h=>by simp![zbO,isEmpty_iff]at h;subst h;rfl| .cons a r,N,sc,es,h=>by cases es with|nil=>simp[zbO]at h| cons e es=>simp![zbO,Β]at h;simp[h.1.1,zaX h.2]
def zhJ(h:znU es=Δ):∃a,es=.cons a .nil:=by
 cases es with
 |nil=>exact nB h
 |cons a r=>cases r with|nil=>exact⟨a,rfl⟩|cons _ _=>exact nB h
def ziC(G:Gd T cf k N sc X)(h:biB b x n=Δ):∃id,za0 X (.builtin id) (rB X.K λS ds=>R.bi S b ds)/\bootBuiltins x=Φ (.builtin id):=by cases b with|len=>simp![biB,Β,beq_iff_eq]at h;rw[h.1];exact⟨_,zqI,zmK⟩|abs=>simp![biB,Β,beq_iff_eq]at h;rw[h.1];exact⟨_,zrf,zrd⟩|max2=>simp![biB,Β,beq_iff_eq]at h;rw[h.1];exact⟨_,zqt G.calm,zra⟩|min2=>simp![biB,Β,beq_iff_eq]at h;rw[h.1];exact⟨_,zqr G.calm,zq9⟩|isin t=>simp[biB]at h
abbrev LOk(T:Tab)(cf:CF)(k:Nat)(cl:CL)(X:Cx)(e:Expr):Prop:=(zis cl=Θ->PE X e (tL X.K cf cl))/\(zod cl=Δ->PE X e (tLt X.K cf cl))/\(∀tg,(zj9 tg||!(zj8 cl))=Δ->PI X tg e (tI X.K cf cl))/\
 ∀a,cl=.rng1 a->∃a' p2 p,e=.Call (.Name "range" p2) [a'] [] p/\(Gl X "range"/\X.mg "range"=Ψ)/\PE X a' (tE X.K cf a)/\zak a'=Δ
abbrev EsOk(cf:CF)(ces:CEs)(X:Cx)(es:List Expr):Prop:=PA X es (tAs X.K cf ces)/\∀a r e es',ces=.cons a r->es=e::es'->PE X e (tE X.K cf a)
def zmW(G:Gd T cf k N sc X)(h:tgB sc N g tg=Δ):PG X tg (tG X.K g):=by unfold tgB at h;split at h;rename_i x q;let⟨p,rfl⟩:=zaU q;split at h;rename_i i q2;rw[zbh q2];simp![Β,beq_iff_eq]at h;exact znc G h.1 h.2;exact nB h;replace h:=zaa h;let⟨es,q,h⟩:=h;let⟨j,p,rfl⟩:=zdt q;simp![Β,decide_eq_true_eq]at h;exact zme G h.2 h.1
def zg6(h:zka c=Δ):PTs X [] (tT X.K cf c):=by
 have hc:c=.tst (.con (.bl Δ)):=by
  cases c with
  |tst a=>
   cases a with
   |con d=>
    cases d with
    |bl b=>cases b with|true=>rfl|false=>exact nB h
    |_=>exact nB h
   |_=>exact nB h
  |_=>exact nB h
 subst hc;intro pins s' σ H' Qv I q;refine znD pins s' σ H' Qv I ?_;let⟨δ,ι,S,Q,hs,hh,w,q⟩:=q;exact q _ _ ⟨ι,S,Ext.refl _ _,hh,w⟩
def zjw(h1:o=Ψ->m=Θ/\zkb ce=Δ)(h2:∀e,o=Φ e->m=Δ/\PE X e (tE X.K cf ce)):PartOk X cf m ce o:=by
 cases o with
 |none=>let⟨rfl,h⟩:=h1 rfl;cases ce with|con d=>exact .no ⟨d,rfl⟩|_=>exact nB h
 |some e=>let⟨rfl,h⟩:=h2 e rfl;exact .yes h
def zaQ{x y:Str}(h:(x==y)=Δ):x=y:=by simpa using h
mutual
theorem zac:∀(ce:CE){N:List Str}{sc:Scope}{e:Expr}{X:Cx},Gd T cf k N sc X->chkE T ce N sc e=Δ->PE X e (tE X.K cf ce)
 |.loc i,N,sc,e,X,G,h=>by replace h:=zaa h;let⟨x,q,h⟩:=h;let⟨p,rfl⟩:=zaU q;simp![Β,beq_iff_eq]at h;let⟨h1,h2,_⟩:=zei h.2;exact zpr G h.1.1 h.1.2 h1 h2| .con d,N,sc,e,X,G,h=>by replace h:=(Bool.or_eq_true _ _).mp h;rcases h with h|h;replace h:=zaa h;let⟨c,q,h⟩:=h;let⟨j,p,rfl⟩:=zgz q;exact zpv h;replace h:=zaa h;let⟨x,q,h⟩:=h;let⟨p,rfl⟩:=zaU q;simp![Β]at h;let⟨h1,h2,_⟩:=zei h.2;have h3:=h.1.2;unfold conG at h3;split at h3;rename_i d' e';exact znl G h.1.1 e' h3 h1;exact nB h3
 |.tst a,N,sc,e,X,G,h=>by exact nB h
 |.bin op a b,N,sc,e,X,G,h=>by replace h:=zaa h;let⟨⟨l,o,r⟩,q,h⟩:=h;let⟨p,rfl⟩:=zjj q;simp![Β,decide_eq_true_eq]at h;let⟨⟨rfl,h1⟩,h2⟩:=h;exact zpx (zac a G h1) (zac b G h2)| .neg a,N,sc,e,X,G,h=>by replace h:=zaa h;let⟨⟨o,x⟩,q,h⟩:=h;let⟨p,rfl⟩:=zeN q;simp![Β,decide_eq_true_eq]at h;let⟨rfl,h1⟩:=h;exact zpn (zac a G h1)| .nt a,N,sc,e,X,G,h=>by replace h:=zaa h;let⟨⟨o,x⟩,q,h⟩:=h;let⟨p,rfl⟩:=zeN q;simp![Β,decide_eq_true_eq]at h;let⟨rfl,h1⟩:=h;exact zrx (zac a G h1)| .cmp op a b,N,sc,e,X,G,h=>by replace h:=zaa h;let⟨⟨l,os,rs⟩,q,h⟩:=h;let⟨p,rfl⟩:=zcy q;rw[Β,decide_eq_true_eq]at h;let⟨e1,h⟩:=h;replace h:=zaa h;let⟨r,q2,h⟩:=h;cases zbh q2;cases e1;simp![Β]at h;exact zpw G (zac a G h.1.2) (zac b G h.2) h.1.1| .cmp2 op op' a b c,N,sc,e,X,G,h=>by replace h:=zaa h;let⟨⟨l,os,rs⟩,q,h⟩:=h;let⟨p,rfl⟩:=zcy q;rw[Β,decide_eq_true_eq]at h;let⟨e1,h⟩:=h;replace h:=zaa h;let⟨⟨r,r'⟩,q2,h⟩:=h;cases two_inv q2;cases e1;simp![Β]at h;let⟨⟨⟨⟨h1,h2⟩,h3⟩,h4⟩,h5⟩:=h;exact znm G (zac a G h3) (zac b G h4) (zac c G h5) h1 h2| .and a b,N,sc,e,X,G,h=>by replace h:=zaa h;let⟨⟨o,vs,p⟩,q,h⟩:=h;cases zbZ q;rw[Β,decide_eq_true_eq]at h;let⟨e1,h⟩:=h;cases e1;dsimp only at h;split at h;rename_i x y rest;rw[Β]at h;let⟨h1,h2⟩:=h;split at h2;rename_i c;cases isEmpty_iff.mp c;exact zmh (zac a G h1) (zmm (zac b G h2));exact zmh (zac a G h1) (zac b G h2);exact nB h
 |.or a b,N,sc,e,X,G,h=>by replace h:=zaa h;let⟨⟨o,vs,p⟩,q,h⟩:=h;cases zbZ q;rw[Β,decide_eq_true_eq]at h;let⟨e1,h⟩:=h;cases e1;dsimp only at h;split at h;rename_i x y rest;rw[Β]at h;let⟨h1,h2⟩:=h;split at h2;rename_i c;cases isEmpty_iff.mp c;exact zpm (zac a G h1) (zmm (zac b G h2));exact zpm (zac a G h1) (zac b G h2);exact nB h
 |.ite c a b,N,sc,e,X,G,h=>by replace h:=zaa h;let⟨⟨t,x,y⟩,q,h⟩:=h;let⟨p,rfl⟩:=zle q;simp![Β]at h;exact zps (zaW c G h.1.1).1 (zac a G h.1.2) (zac b G h.2)| .tup es,N,sc,e,X,G,h=>by replace h:=zaa h;let⟨xs,q,h⟩:=h;let⟨j,p,rfl⟩:=zdt q;exact zpk (za5 es G h).1| .lst es,N,sc,e,X,G,h=>by replace h:=zaa h;let⟨xs,q,h⟩:=h;let⟨p,rfl⟩:=zhZ q;exact zpq (za5 es G h).1| .ix a b,N,sc,e,X,G,h=>by replace h:=zaa h;let⟨⟨x,i⟩,q,h⟩:=h;let⟨p,rfl⟩:=zcx q;simp![Β]at h;exact zrz (zac a G h.1.2) (zac b G h.2) h.1.1| .fld a f,N,sc,e,X,G,h=>by replace h:=zaa h;let⟨⟨o,f',p⟩,q,h⟩:=h;cases zb0 q;simp![Β,decide_eq_true_eq]at h;let⟨⟨⟨rfl,h2⟩,h3⟩,h4⟩:=h;exact zpt G (zac a G h4) h2 h3| .mk c f x j es,N,sc,e,X,G,h=>by
  replace h:=zaa h;let⟨⟨x',args⟩,q,h⟩:=h;let⟨p2,p,rfl⟩:=zaV q;simp![Β,Ϯ,decide_eq_true_eq]at h;let⟨⟨⟨⟨⟨⟨rfl,h1⟩,h2⟩,h3⟩,h4⟩,h5⟩,h6⟩:=h;let⟨n1,n2,n3⟩:=zei h2;have ha:=(za5 es G h6).1;cases args with
  |nil=>
   have:es=.nil:=by cases es with|nil=>rfl|cons _ _=>rcases h5 with z|z<;>exact nB z
   rw[this];exact zpp G h4 h3 h1 n1
  |cons a as=>exact zry G h4 h3 h1 n1 ha (zaX h6)
 |.meth m tb o es,N,sc,e,X,G,h=>by
  replace h:=zaa h;let⟨⟨oe,m',ap,args,cp⟩,q,h⟩:=h;cases zgw q;simp![Β,Ϯ,decide_eq_true_eq]at h;let⟨⟨⟨⟨⟨⟨⟨rfl,h1⟩,h2⟩,h3⟩,h4⟩,h5⟩,h6⟩,h7⟩:=h;have ho:=zac o G h6;have ha:=(za5 es G h7).1;cases args with
  |nil=>
   have:es=.nil:=by cases es with|nil=>rfl|cons _ _=>rcases h5 with z|z<;>exact nB z
   rw[this];exact zk5 G h1 ho h2 h3
  |cons a as=>exact znj G h1 ho ha (zaX h7) h2 h3 h4
 |.slS a b,N,sc,e,X,G,h=>by replace h:=zaa h;let⟨⟨x,i⟩,q,h⟩:=h;let⟨p,rfl⟩:=zcx q;replace h:=zaa h;let⟨s,q2,h⟩:=h;let⟨p2,rfl⟩:=zje q2;simp![Β]at h;exact zpl (zac a G h.1) (zac b G h.2)| .sl a ml mh lo hi,N,sc,e,X,G,h=>by replace h:=zaa h;let⟨⟨x,i⟩,q,h⟩:=h;let⟨p,rfl⟩:=zcx q;replace h:=zaa h;let⟨⟨l,u⟩,q2,h⟩:=h;let⟨p2,rfl⟩:=zld q2;simp![Β]at h;let⟨⟨h1,h2⟩,h3⟩:=h;refine zrw (zac a G h1) (zjw (λz=>?_) λe z=>?_) (zjw (λz=>?_) λe z=>?_);subst z;simpa using h2;subst z;simp![Β]at h2;exact⟨h2.1,zac lo G h2.2⟩;subst z;simpa using h3;subst z;simp![Β]at h3;exact⟨h3.1,zac hi G h3.2⟩| .call f j es,N,sc,e,X,G,h=>by
  replace h:=zaa h;let⟨⟨x,args⟩,q,h⟩:=h;let⟨p2,p,rfl⟩:=zaV q;simp![Β,Ϯ]at h;let⟨⟨⟨⟨h1,h2⟩,h3⟩,h4⟩,h5⟩:=h;let⟨n1,n2,n3⟩:=zei h2;let⟨ps,nd,hf,hj⟩:=zqZ h3;have ha:=(za5 es G h5).1;cases args with
  |nil=>
   have:es=.nil:=by cases es with|nil=>rfl|cons _ _=>rcases h4 with z|z<;>exact nB z
   rw[this];exact zk7 G hf hj h1 n1
  |cons a as=>exact znn G hf hj h1 n1 ha (zaX h5)
 |.bi b es,N,sc,e,X,G,h=>by
  replace h:=zaa h;let⟨⟨x,args⟩,q,h⟩:=h;let⟨p2,p,rfl⟩:=zaV q;rw[Β,Β]at h;let⟨⟨h1,h2⟩,h3⟩:=h;let⟨n1,n2,n3⟩:=zei h2;split at h3;rename_i t qt;replace h3:=zaa h3;let⟨⟨e1,e2⟩,q2,h3⟩:=h3;cases two_inv q2;replace h3:=zaa h3;let⟨y,q3,h3⟩:=h3;let⟨p3,rfl⟩:=zaU q3;simp![Β]at h3;let⟨⟨⟨⟨⟨hx,h4⟩,h5⟩,h6⟩,h7⟩,h8⟩:=h3;cases zaQ hx;let⟨m1,m2,m3⟩:=zei h6;let⟨t1,t2⟩:=zoY h4;let⟨a,ea⟩:=zhJ h7;have he:=(za5 es G h8).2 a .nil e1 [] ea rfl;have hst:=zaX h8;have eb:b=.isin t:=by cases b with|isin _=>cases qt;rfl|_=>exact nS qt
  rw[ea,eb];exact znk G (zaP G h1) (zaP G h5) t2 t1 m3 m1 he (by simpa using hst);rw[Β,Β]at h3;cases args with
  |nil=>cases h3.1.2
  |cons a as=>let⟨id,hc,hv⟩:=ziC G h3.1.1;exact zrA hc (zaP G h1) hv (za5 es G h3.2).1 (zaX h3.2) n3 n1
 |.mt m o es,N,sc,e,X,G,h=>by
  replace h:=zaa h;let⟨⟨oe,x,ap,e1,cp⟩,q,h⟩:=h;cases zeh q;simp![Β]at h;let⟨⟨⟨⟨⟨h1,h2⟩,h3⟩,h4⟩,h5⟩,h6⟩:=h;let⟨a,ea⟩:=zhJ h4;have he:=(za5 es G h6).2 a .nil e1 [] ea rfl;have hst:zak e1=Δ:=by simpa using zaX h6
  rw[ea];cases m with| append=>cases zaQ h1;exact znh PySem.F.slot_list_append PySem.F.type_list_append zkK (zac o G h5) he hst h2 h3| popAt=>cases zaQ h1;exact znh PySem.F.slot_list_pop PySem.F.type_list_pop zlj (zac o G h5) he hst h2 h3| count=>cases zaQ h1;exact znh PySem.F.slot_list_count PySem.F.type_list_count zlY (zac o G h5) he hst h2 h3
 |.mkL l,N,sc,e,X,G,h=>by
  replace h:ite (zof l=Δ) _ _=Δ:=h;split at h;rename_i c;split at h;have ht:zod l=Δ:=by cases l with|comp=>rfl|_=>exact nB c
  exact PE.imp ((zbi l G h).2.1 ht) λσ H Qv q=>zjF q;replace h:=zaa h;let⟨⟨x,e1⟩,q,h⟩:=h;let⟨p2,p,rfl⟩:=zaq q;simp![Β]at h;let⟨⟨⟨hx,h1⟩,h2⟩,h4⟩:=h;cases zaQ hx;have hr:zis l=Θ:=by cases l with|comp=>rfl|_=>exact nB c
  exact zmg G (zaP G h1) ((zbi l G h4).1 hr) h2;replace h:=zaa h;let⟨⟨x,e1⟩,q,h⟩:=h;let⟨p2,p,rfl⟩:=zaq q;simp![Β,Ϯ,not_eq_true']at h;let⟨⟨⟨⟨hx,h1⟩,h2⟩,h3⟩,h4⟩:=h;cases zaQ hx;have hl:=zbi l G h4;rcases h3 with h3|h3;exact zmg G (zaP G h1) (hl.1 h3) h2;have:∃a,l=.rng1 a:=by cases l with|rng1 a=>exact⟨a,rfl⟩|_=>exact nB h3
  let⟨a,ea⟩:=this;let⟨a',p3,p4,rfl,hr,ha,hs⟩:=hl.2.2.2 a ea;rw[ea];exact zni G (zaP G h1) hr ha hs
 |.mkT l,N,sc,e,X,G,h=>by
  replace h:=zaa h;let⟨⟨x,e1⟩,q,h⟩:=h;let⟨p2,p,rfl⟩:=zaq q;simp![Β,Ϯ,not_eq_true']at h;let⟨⟨⟨⟨hx,h1⟩,h2⟩,h3⟩,h4⟩:=h;cases zaQ hx;have hl:=zbi l G h4;rcases h3 with h3|h3;exact zpo G (zaP G h1) (hl.1 h3) h2;have:∃a,l=.rng1 a:=by cases l with|rng1 a=>exact⟨a,rfl⟩|_=>exact nB h3
  let⟨a,ea⟩:=this;let⟨a',p3,p4,rfl,hr,ha,hs⟩:=hl.2.2.2 a ea;rw[ea];exact zk4 G (zaP G h1) hr ha hs
 |.all l,N,sc,e,X,G,h=>by replace h:=zaa h;let⟨⟨x,e1⟩,q,h⟩:=h;let⟨p2,p,rfl⟩:=zaq q;simp![Β,not_eq_true']at h;let⟨⟨⟨⟨hx,h1⟩,h2⟩,h3⟩,h4⟩:=h;cases zaQ hx;exact zpy G (zaP G h1) ((zbi l G h4).1 h3) h2| .ext a l,N,sc,e,X,G,h=>by replace h:=zaa h;let⟨⟨oe,x,ap,e1,cp⟩,q,h⟩:=h;cases zeh q;simp![Β]at h;let⟨⟨⟨⟨⟨⟨hx,h1⟩,h2⟩,h3⟩,h4⟩,h5⟩,h6⟩:=h;cases zaQ hx;exact zpu (zac a G h5) ((zbi l G h6).2.1 h4) h1 h2 h3| .lenset l,N,sc,e,X,G,h=>by replace h:=zaa h;let⟨⟨x,e1⟩,q,h⟩:=h;let⟨p2,p,rfl⟩:=zaq q;replace h:=zaa h;let⟨⟨y,e2⟩,q2,h⟩:=h;let⟨p3,p4,hy⟩:=zaq q2;simp![Β,not_eq_true']at h;let⟨⟨⟨⟨⟨⟨hx,h1⟩,hz⟩,h2⟩,h3⟩,h4⟩,h5⟩:=h;cases zaQ hx;cases zaQ hz;dsimp only at hy;subst hy;exact zi6 G (zaP G h1) (zaP G h2) ((zbi l G h5).1 h4) h3| .dnew3,N,sc,e,X,G,h=>by let⟨p,rfl⟩:=zgy h;exact zk6| .sset a,N,sc,e,X,G,h=>by replace h:=zaa h;let⟨⟨x,e1⟩,q,h⟩:=h;let⟨p2,p,rfl⟩:=zaq q;replace h:=zaa h;let⟨⟨y,e2⟩,q2,h⟩:=h;let⟨p3,p4,hy⟩:=zaq q2;simp![Β]at h;let⟨⟨⟨⟨⟨hx,h1⟩,hz⟩,h2⟩,h3⟩,h5⟩:=h;cases zaQ hx;cases zaQ hz;dsimp only at hy;subst hy;exact zng G (zaP G h1) (zaP G h2) (zac a G h5) h3| .ssetP a,N,sc,e,X,G,h=>by replace h:=zaa h;let⟨⟨x,e1⟩,q,h⟩:=h;let⟨p2,p,rfl⟩:=zaq q;replace h:=zaa h;let⟨⟨y,e2⟩,q2,h⟩:=h;let⟨p3,p4,hy⟩:=zaq q2;simp![Β]at h;let⟨⟨⟨⟨⟨hx,h1⟩,hz⟩,h2⟩,h3⟩,h5⟩:=h;cases zaQ hx;cases zaQ hz;dsimp only at hy;subst hy;exact zk3 G (zaP G h1) (zaP G h2) (zac a G h5) h3
theorem za5:∀(ces:CEs){N:List Str}{sc:Scope}{es:List Expr}{X:Cx},Gd T cf k N sc X->zbO T ces N sc es=Δ->EsOk cf ces X es
 |.nil,N,sc,es,X,G,h=>by simp![zbO,isEmpty_iff]at h;subst h;exact⟨zmi,λa r e es' z=>by cases z⟩| .cons a r,N,sc,es,X,G,h=>by cases es with|nil=>simp[zbO]at h| cons e es=>simp![zbO,Β]at h;have he:=zac a G h.1.2;exact⟨zi8 he (za5 r G h.2).1 h.1.1,λa' r' e' es' z1 z2=>by cases z1;cases z2;exact he⟩
theorem zaW:∀(ce:CE){N:List Str}{sc:Scope}{e:Expr}{X:Cx},Gd T cf k N sc X->chkT T ce N sc e=Δ->PT X e (tT X.K cf ce)/\((∃op v r p,e=.BoolOp op (v::r) p)->PW X e (tT X.K cf ce))
 |.cmp op a b,N,sc,e,X,G,h=>by replace h:=zaa h;let⟨⟨l,os,rs⟩,q,h⟩:=h;let⟨p,rfl⟩:=zcy q;rw[Β,decide_eq_true_eq]at h;let⟨e1,h⟩:=h;replace h:=zaa h;let⟨r,q2,h⟩:=h;cases zbh q2;cases e1;simp![Β]at h;exact⟨zpd G (zac a G h.1.2) (zac b G h.2) h.1.1,λ⟨_,_,_,_,z⟩=>by cases z⟩| .cmp2 op op' a b c,N,sc,e,X,G,h=>by replace h:=zaa h;let⟨⟨l,os,rs⟩,q,h⟩:=h;let⟨p,rfl⟩:=zcy q;rw[Β,decide_eq_true_eq]at h;let⟨e1,h⟩:=h;replace h:=zaa h;let⟨⟨r,r'⟩,q2,h⟩:=h;cases two_inv q2;cases e1;simp![Β]at h;let⟨⟨⟨⟨h1,h2⟩,h3⟩,h4⟩,h5⟩:=h;exact⟨zm2 G (zac a G h3) (zac b G h4) (zac c G h5) h1 h2,λ⟨_,_,_,_,z⟩=>by cases z⟩| .nt a,N,sc,e,X,G,h=>by replace h:=zaa h;let⟨⟨o,x⟩,q,h⟩:=h;let⟨p,rfl⟩:=zeN q;simp![Β,decide_eq_true_eq]at h;let⟨rfl,h1⟩:=h;exact⟨zru (zaW a G h1).1,λ⟨_,_,_,_,z⟩=>by cases z⟩| .and a b,N,sc,e,X,G,h=>by replace h:=zaa h;let⟨⟨o,vs,p⟩,q,h⟩:=h;cases zbZ q;rw[Β,decide_eq_true_eq]at h;let⟨e1,h⟩:=h;cases e1;dsimp only at h;split at h;rename_i x y rest;rw[Β]at h;let⟨h1,h2⟩:=h;split at h2;rename_i c;cases isEmpty_iff.mp c;have w:=zmc (pos:=p) (zaW a G h1).1 (znz (zaW b G h2).1);exact⟨w.pt,λ_=>w⟩;have w:=zmc (zaW a G h1).1 ((zaW b G h2).2 ⟨_,_,_,_,rfl⟩);exact⟨w.pt,λ_=>w⟩;exact nB h
 |.or a b,N,sc,e,X,G,h=>by replace h:=zaa h;let⟨⟨o,vs,p⟩,q,h⟩:=h;cases zbZ q;rw[Β,decide_eq_true_eq]at h;let⟨e1,h⟩:=h;cases e1;dsimp only at h;split at h;rename_i x y rest;rw[Β]at h;let⟨h1,h2⟩:=h;split at h2;rename_i c;cases isEmpty_iff.mp c;have w:=zpc (pos:=p) (zaW a G h1).1 (zpQ (zaW b G h2).1);exact⟨w.pt,λ_=>w⟩;have w:=zpc (zaW a G h1).1 ((zaW b G h2).2 ⟨_,_,_,_,rfl⟩);exact⟨w.pt,λ_=>w⟩;exact nB h
 |.tst a,N,sc,e,X,G,h=>by replace h:=(Bool.and_eq_true _ _).mp h;exact⟨zpb (zac a G h.2) h.1,λ⟨_,_,_,_,z⟩=>by rw[z]at h;simp[zhl]at h⟩|.loc i,N,sc,e,X,G,h=>absurd h Ε|.con d,N,sc,e,X,G,h=>absurd h Ε|.bin op a b,N,sc,e,X,G,h=>absurd h Ε|.neg a,N,sc,e,X,G,h=>absurd h Ε|.ite c a b,N,sc,e,X,G,h=>absurd h Ε|.tup es,N,sc,e,X,G,h=>absurd h Ε|.lst es,N,sc,e,X,G,h=>absurd h Ε|.ix a b,N,sc,e,X,G,h=>absurd h Ε|.fld a f,N,sc,e,X,G,h=>absurd h Ε|.mk c f x j es,N,sc,e,X,G,h=>absurd h Ε|.meth m tb o es,N,sc,e,X,G,h=>absurd h Ε|.slS a b,N,sc,e,X,G,h=>absurd h Ε|.sl a ml mh lo hi,N,sc,e,X,G,h=>absurd h Ε|.call f j es,N,sc,e,X,G,h=>absurd h Ε|.bi b es,N,sc,e,X,G,h=>absurd h Ε|.mt m o es,N,sc,e,X,G,h=>absurd h Ε|.mkL l,N,sc,e,X,G,h=>absurd h Ε|.mkT l,N,sc,e,X,G,h=>absurd h Ε|.all l,N,sc,e,X,G,h=>absurd h Ε|.ext a l,N,sc,e,X,G,h=>absurd h Ε|.lenset l,N,sc,e,X,G,h=>absurd h Ε|.sset a,N,sc,e,X,G,h=>absurd h Ε|.ssetP a,N,sc,e,X,G,h=>absurd h Ε|.dnew3,N,sc,e,X,G,h=>absurd h Ε
theorem zbi:∀(cl:CL){N:List Str}{sc:Scope}{e:Expr}{X:Cx},Gd T cf k N sc X->chkL T cl N sc e=Δ->LOk T cf k cl X e
 |.val a,N,sc,e,X,G,h=>by replace h:=(Bool.and_eq_true _ _).mp h;have hp:=zpi (zac a G h.2);exact⟨λ_=>hp,λz=>(by exact nB z),λtg _=>zmd hp zqD,λa z=>by cases z⟩| .rng1 a,N,sc,e,X,G,h=>by replace h:=zaa h;let⟨⟨x,e1⟩,q,h⟩:=h;let⟨p2,p,rfl⟩:=zaq q;simp![Β]at h;let⟨⟨⟨hx,h1⟩,h2⟩,h3⟩:=h;cases zaQ hx;have he:=zac a G h3;exact⟨λz=>(by cases z),λz=>(by exact nB z),λtg _=>zna (zaP G h1) he h2,λa z=>by cases z;exact⟨e1,p2,p,rfl,zaP G h1,he,h2⟩⟩| .rng2 a b,N,sc,e,X,G,h=>by replace h:=zaa h;let⟨⟨x,args⟩,q,h⟩:=h;let⟨p2,p,rfl⟩:=zaV q;replace h:=zaa h;let⟨⟨e1,e2⟩,q2,h⟩:=h;cases two_inv q2;simp![Β]at h;let⟨⟨⟨⟨⟨hx,h1⟩,h2⟩,h3⟩,h4⟩,h5⟩:=h;cases zaQ hx;exact⟨λz=>(by cases z),λz=>(by exact nB z),λtg _=>zm9 (zaP G h1) (zac a G h4) (zac b G h5) h2 h3,λa z=>by cases z⟩| .enum a,N,sc,e,X,G,h=>by replace h:=zaa h;let⟨⟨x,e1⟩,q,h⟩:=h;let⟨p2,p,rfl⟩:=zaq q;simp![Β]at h;let⟨⟨⟨hx,h1⟩,h2⟩,h3⟩:=h;cases zaQ hx;refine⟨λz=>(by cases z),λz=>(by exact nB z),λtg ht=>?_,λa z=>by cases z⟩;cases tg with|Tuple es j pt=>exact znb (zaP G h1) (zac a G h3) h2|_=>exact nB ht
 |.comp nt js g it c e,N,sc,ex,X,G,h=>by
  replace h:=zaa h;let⟨⟨elt,gs,scope,p⟩,q,h⟩:=h;cases zhi q;replace h:=zaa h;let⟨⟨tg,iter,ifs,asy⟩,q2,h⟩:=h;cases zbh q2;rw[Β,Β,Β,Β,Β,Β,Β,Β,decide_eq_true_eq,decide_eq_true_eq,decide_eq_true_eq]at h;let⟨⟨⟨⟨⟨⟨⟨⟨h1,h2⟩,h3⟩,h4⟩,h5⟩,h6⟩,h7⟩,h8⟩,h9⟩:=h;dsimp only at h1 h2 h3 h4 h5 h6 h7 h8 h9;rw[Β]at h3;subst h1 h5;have ok:=zhI G h2;have G':=zko G (tgs:=zbD tg) ok h6;have ht:∀cl C fp s H pn,PTs (zaB X (capN X.N (zbD tg) js) scope cl C fp s H pn) ifs (tT X.K cf c):=λcl C fp s H pn=>by split at h8;rename_i ce;cases isEmpty_iff.mp ce;exact zg6 (X:=zaB X (capN X.N (zbD tg) js) scope cl C fp s H pn) h8;replace h8:=zaa h8;let⟨t,q3,h8⟩:=h8;cases zbh q3;exact zjn (zaW c (G' cl C fp s H pn) h8).1
  have hp:PE X (.ListComp elt [⟨tg,iter,ifs,0⟩] scope p) (tLt X.K cf (.comp (zbD tg).length js g it c e)):=PE.imp (zlt X.env.scope (zbD tg) js G.calm rfl ok ((zbi it G h4).2.2.1 tg h3.2) (λcl C fp s H pn=>zmW (G' cl C fp s H pn) h7) ht (λcl C fp s H pn=>zac e (G' cl C fp s H pn) h9) (zgS h3.1 X.env)) λσ H Qv q=>zhH G.tab.frm q;exact⟨λ_=>(PE.ofT hp),λ_=>hp,λtg _=>zmd (PE.ofT hp) zn4,λa z=>by cases z⟩
end
end
end R
end
namespace R
open PySem PySem.Spec PyProof.Rows L2
variable[Mks]
section
variable{T:Tab}{cf:CF}{k:Nat}
def zm5(G:Gd T cf k N sc X)(hi:N[i]?=Φ x)(hl:zfU sc x=Δ)(h:chkE T (.mkL l) N sc (.ListComp elt gs scope p2)=Δ)(hr:PSs X rest (tS X.K cf r)):
  PSs X (.Assign [.Name x p] (.ListComp elt gs scope p2) pos::rest) (tS X.K cf (.asg i (.mkL l) r)):=by
 have hw:∃b,swapsWith (.ListComp elt gs scope p2) (Φ (.Name x p)) pos.line X.env=pure b:=⟨_,rfl⟩;let⟨b,hw⟩:=hw;cases b with
 |false=>refine PSs.imp (zaY (zml (i:=i) (by rw[G.nm];exact G.nd) (by rw[G.nm];exact hi) (G.lc hl).1 (zac (.mkL l) G h) hw (G.lc hl).2) hr) λE σ H z=>?_;let⟨δ,ι,S,Q,hs,hh,w,lf⟩:=z;change W (Out.bind _ _) _ at w;simp![zab] at w;refine tE.run hs hh w λd v ι1 H1 S1 x1 hs1 hh1 r1 w1=>?_;exact⟨δ.set i (Φ d),ι1,S1,Q,hs1.set r1 i,hh1,w1,lf.up x1⟩| true=>
  replace h:ite (zof l=Δ) _ _=Δ:=h;split at h;rename_i c0;split at h;cases l with
  |comp nt js g it c e=>
   replace h:=zaa h;let⟨⟨elt',gs',scope',p'⟩,q,h⟩:=h;cases zhi q;replace h:=zaa h;let⟨⟨tg,iter,ifs,asy⟩,q2,h⟩:=h;cases zbh q2;rw[Β,Β,Β,Β,Β,Β,Β,Β,decide_eq_true_eq,decide_eq_true_eq,decide_eq_true_eq]at h;let⟨⟨⟨⟨⟨⟨⟨⟨h1,h2⟩,h3⟩,h4⟩,h5⟩,h6⟩,h7⟩,h8⟩,h9⟩:=h;dsimp only at h1 h2 h3 h4 h5 h6 h7 h8 h9;rw[Β]at h3;subst h1 h5;have ok:=zhI G h2;have G':=zko G (tgs:=zbD tg) ok h6;have ht:∀cl C fp s H pn,PTs (zaB X (capN X.N (zbD tg) js) scope cl C fp s H pn) ifs (tT X.K cf c):=λcl C fp s H pn=>by split at h8;rename_i ce;cases isEmpty_iff.mp ce;exact zg6 (X:=zaB X (capN X.N (zbD tg) js) scope cl C fp s H pn) h8;replace h8:=zaa h8;let⟨t,q3,h8⟩:=h8;cases zbh q3;exact zjn (zaW c (G' cl C fp s H pn) h8).1
   have he:∀cl C fp s H pn,PE (zaB X (capN X.N (zbD tg) js) scope cl C fp s H pn) elt (tE X.K cf e):=λcl C fp s H pn=>zac e (G' cl C fp s H pn) h9;have hg:∀cl C fp s H pn,PG (zaB X (capN X.N (zbD tg) js) scope cl C fp s H pn) tg (tG X.K g):=λcl C fp s H pn=>zmW (G' cl C fp s H pn) h7;have hps:=znG (spos:=pos) (py:=p) (pos:=p2) X.env.scope (zbD tg) js (i:=i) (y:=x) (by rw[G.nm];exact G.nd) (by rw[G.nm];exact hi) (G.lc hl).1 G.calm rfl ok ((zbi it G h4).2.2.1 tg h3.2) hg ht he hw (zgS h3.1 X.env) (G.lc hl).2;exact zm7 G hi ⟨_,hps,λσ H Qv q=>zhH G.tab.frm (zjF q)⟩ hr
  |_=>exact nB c0
  exact nB h;exact nB h
def zoA(h:zbJ v=Θ)(hc:chkE T e N sc v=Δ):∃l elt gs scope p,v=.ListComp elt gs scope p/\e=.mkL l:=by
 cases v with
 |ListComp elt gs scope p=>cases e with|mkL l=>exact⟨l,elt,gs,scope,p,rfl,rfl⟩|_=>first|exact nB hc|exact absurd (h.symm.trans hc) Ε|(rename_i l;cases l<;>(first|exact nB hc|exact absurd (h.symm.trans hc) Ε))
 |SetComp=>cases e<;>(first|exact nB hc|exact absurd (h.symm.trans hc) Ε|(rename_i l;cases l<;>(first|exact nB hc|exact absurd (h.symm.trans hc) Ε)))|DictComp=>cases e<;>(first|exact nB hc|exact absurd (h.symm.trans hc) Ε|(rename_i l;cases l<;>(first|exact nB hc|exact absurd (h.symm.trans hc) Ε)))|_=>cases h
def za3:∀(cs:CS){N:List Str}{sc:Scope}{st:List Stmt}{X:Cx},Gd T cf k N sc X->chkS T cs N sc st=Δ->PSs X st (tS X.K cf cs)
 |.nil,N,sc,st,X,G,h=>by obtain rfl:=List.isEmpty_iff.mp h;exact zpf|.stop,N,sc,st,X,G,h=>λpins s σ H E I z=>(by let⟨δ,ι,S,Q,hs,hh,w,l⟩:=z;exact (by exact w.elim))| .asg i e r,N,sc,st,X,G,h=>by cases st with|nil=>simp[chkS]at h| cons s rest=>replace h:=zaa h;let⟨⟨tg,v,pos⟩,q,h⟩:=h;cases zcz q;replace h:=zaa h;let⟨x,q2,h⟩:=h;let⟨p,hx⟩:=zaU q2;dsimp only at hx;subst hx;simp![Β,beq_iff_eq]at h;let⟨⟨⟨h1,h2⟩,h3⟩,h4⟩:=h;have hr:=za3 r G h4;cases hn:zbJ v with|true=>exact zph G h1 h2 (zac e G h3) hn hr| false=>let⟨l,elt,gs,scope,p2,rfl,rfl⟩:=zoA hn h3;exact zm5 G h1 h2 h3 hr
 |.asgT g e r,N,sc,st,X,G,h=>by cases st with|nil=>simp[chkS]at h| cons s rest=>replace h:=zaa h;let⟨⟨tg,v,pos⟩,q,h⟩:=h;cases zcz q;replace h:=zaa h;let⟨es,q2,h⟩:=h;let⟨j,p,hx⟩:=zdt q2;dsimp only at hx;subst hx;simp![Β,decide_eq_true_eq]at h;let⟨⟨⟨⟨h1,h2⟩,h3⟩,h4⟩,h5⟩:=h;refine zm6 G h3 h2 (zac e G h4) ?_ (za3 r G h5);rw[Ϯ]at h1;rcases h1 with h1|h1;let⟨x,hx⟩:=Option.isSome_iff_exists.mp h1;let⟨p2,hv⟩:=zaU hx;exact .inl ⟨x,p2,hv⟩;let⟨⟨x,as⟩,hx⟩:=Option.isSome_iff_exists.mp h1;let⟨p2,p3,hv⟩:=zaV hx;exact .inr ⟨_,_,_,_,hv⟩
 |.setF a f e r,N,sc,st,X,G,h=>by cases st with|nil=>simp[chkS]at h| cons s rest=>replace h:=zaa h;let⟨⟨tg,v,pos⟩,q,h⟩:=h;cases zcz q;replace h:=zaa h;let⟨⟨o,f',p⟩,q2,h⟩:=h;have hx:=zb0 q2;dsimp only at hx;subst hx;simp![Β,decide_eq_true_eq]at h;let⟨⟨⟨⟨h1,h2⟩,h4⟩,h5⟩,h6⟩:=h;subst h1;exact zm3 G h2 (zac a G h4) (zac e G h5) (za3 r G h6)
 |.setIx a b e r,N,sc,st,X,G,h=>by cases st with|nil=>simp[chkS]at h| cons s rest=>replace h:=zaa h;let⟨⟨tg,v,pos⟩,q,h⟩:=h;cases zcz q;replace h:=zaa h;let⟨⟨o,i⟩,q2,h⟩:=h;let⟨p,hx⟩:=zcx q2;dsimp only at hx;subst hx;simp![Β]at h;let⟨⟨⟨⟨h1,h2⟩,h3⟩,h4⟩,h5⟩:=h;exact zkU G (zac a G h2) (zac b G h3) (zac e G h4) h1 (za3 r G h5)
 |.ifS c t u r,N,sc,st,X,G,h=>by cases st with|nil=>simp[chkS]at h| cons s rest=>replace h:=zaa h;let⟨⟨e,a,b⟩,q,h⟩:=h;let⟨p,rfl⟩:=zjg q;simp![Β]at h;exact zrv (zaW c G h.1.1.1).1 (za3 t G h.1.1.2) (za3 u G h.1.2) (za3 r G h.2)
 |.forS g l b r,N,sc,st,X,G,h=>by cases st with|nil=>simp[chkS]at h| cons s rest=>replace h:=zaa h;let⟨⟨tg,it,body⟩,q,h⟩:=h;let⟨p,rfl⟩:=zjh q;simp![Β]at h;let⟨⟨⟨⟨h1,h2⟩,h3⟩,h4⟩,h5⟩:=h;exact zpg G ((zbi l G h2).2.2.1 tg h5.2) (zmW G h5.1) (za3 b G h3) h1 (za3 r G h4)
 |.ret e r,N,sc,st,X,G,h=>by cases st with|nil=>simp[chkS]at h| cons s rest=>replace h:=zaa h;let⟨v,q,h⟩:=h;let⟨p,rfl⟩:=zjf q;simp![Β]at h;exact zpe (zac e G h.1) (za3 r G h.2)
 |.expr e r,N,sc,st,X,G,h=>by cases st with|nil=>simp[chkS]at h| cons s rest=>replace h:=zaa h;let⟨v,q,h⟩:=h;let⟨p,rfl⟩:=zji q;simp![Β]at h;exact zm4 (zac e G h.1.2) h.1.1 (za3 r G h.2)
def RS.start{K}(r:RVs K ι H ds vs)(c:ds.length=F.np)(f:F.nn=N.length):RS K ι H (zaR F ds) (L2.start N vs):=by
 have a:=r.length;refine⟨by simp[zaR,L2.start,a,c,f],λi d e=>?_⟩;unfold zaR at e;unfold L2.start;by_cases b:i<ds.length;rw[getElem?_append_left (by simpa using b),getElem?_map]at e;rw[getElem?_append_left (by simpa[a]using b),getElem?_map];cases z:ds[i]? with
 |none=>rw[z]at e;exact nS e
 |some j=>rw[z]at e;simp![Option.map_some,Option.some.injEq]at e;subst e;let⟨v,g,h⟩:=r.get z;exact⟨v,by rw[g];rfl,h⟩
 . rw[getElem?_append_right (by simpa using b),List.getElem?_replicate]at e;split at e<;>cases e
abbrev ChkD(T:Tab)(b:CS)(N:List Str)(sc:Scope)(st:List Stmt):Prop:=chkS T b N sc st=Δ/\N≠T.lam
structure DefOk(K:Frag)(mg:Str->Option Ω)(T:Tab)(Pg:List Fn)(fi:Nat)(x:Str)(ps:List Str)(nd:Nat):Prop where
 ex:∃(F:Fn) (qual:Str) (st:Stmt) (dV:Ω) (f:Addr) (fd:FuncData) (N:List Str),Pg[fi]?=Φ F/\F.prim=Ψ/\FunV K x qual st dV f fd/\FnScope N ps (zad st)/\ChkD T F.body N (zad st) (zas st)/\F.np=ps.length/\F.nn=N.length/\
  mg x=Φ (.ref f)/\∀j,j<=nd->Binds K fd ps (List.replicate j Ω.none)
def znI:Fr S (prm S p ds):=by
 unfold prm
 repeat' first
 |exact .bad
 |exact .ok
 |exact .of (.push _ _)
 |split
def zfZ(Pg)(n):CFok (callF Pg n):=by
 induction n with
 |zero=>exact λ_ _ _ _ _ e=>by cases e| succ n ih=>
  intro f ds S;show Fr S _;unfold callF
  repeat' first
  |exact .bad
  |exact .ok
  |exact frS ih _ _ _
  |exact znI
  |refine Fr.bind ?_ λ_ _=>?_
  |split
variable{P:Χ}{w:ϒ}{K:Frag}{mg:Str->Option Ω}{base:Heap}{Pg:List Fn}
def zdk{ps:List Str}(hP:Pg[fi]?=Φ F)(hp:F.np=ps.length)(h:spF K (callF Pg n) fi vs H Q E):vs.length=ps.length:=by let⟨ι,S,ds,r,hh,w⟩:=h;rw[r.length];cases n with|zero=>exact w.elim| succ n=>simp![callF,hP]at w;split at w;rename_i c;rw[c,hp];exact w.elim
def zkx{st}(tab:TabOk T (callF Pg n) m P w K mg base)(FV:FunV K x qual st dV f fd)(hP:Pg[fi]?=Φ F)(S:FnScope N ps (zad st))(ck:ChkD T F.body N (zad st) (zas st))(hp:F.np=ps.length)(hn:F.nn=N.length)(hq:F.prim=Ψ:=by rfl):
  FnOk P w K mg base CX0 (m+2) f fd ps (spF K (callF Pg (n+1)) fi):=by
 refine FV.ok S (λvs H Q E h=>zdk hP hp h) λcdv A outer s H vs Q E hr h=>?_;let⟨ι,S0,ds,r,hh,hw⟩:=h;have G:Gd T (callF Pg n) m N (zad st) (cxOf CX0 P w K mg base N qual (zad st) f cdv A outer s H E).nox:=⟨rfl,S.nd,λx e=>e,λx e=>e,λx e=>.inl e,λx e=>e,.inl λ_=>rfl,rfl,rfl,hr,tab,λz=>absurd z ck.2⟩;refine⟨_,za3 F.body G ck.1,?_⟩;simp![callF,hP,hq]at hw;split at hw;rename_i c;rw[zab]at hw;refine⟨zaR F ds,ι,S0,_,RS.start r c hn,hh,hw,?_⟩;intro fl ι' H' S' x' hh' q;cases fl with|nx δ'=>exact λσ' hs'=>q .non H' ι' x' rfl hh'|rt d=>exact λv rv=>q v H' ι' x' rv hh'
 exact hw.elim
structure MOk(K:Frag)(T:Tab)(Pg:List Fn)(fi j:Nat)(Ex:Addr->Prop):Prop where
 ex:∃(F:Fn) (x qual:Str) (st:Stmt) (dV:Ω) (f:Addr) (fd:FuncData) (N ps:List Str),Pg[fi]?=Φ F/\F.prim=Ψ/\FunV K x qual st dV f fd/\FnScope N ps (zad st)/\ChkD T F.body N (zad st) (zas st)/\F.np=ps.length/\F.nn=N.length/\
  Binds K fd ps (List.replicate j Ω.none)/\Ex f
def ze0(z:MOk K T Pg fi j Ex):∃f fd ps,Ex f/\keepIn K (.ref f)=Δ/\Binds K fd ps (List.replicate j Ω.none)/\FnOk P w K mg base CX0 0 f fd ps (spF K (callF Pg 0) fi):=by let⟨F,x,qual,st,dV,f,fd,N,ps,hP,hq,FV,S,ck,hp,hn,hb,e⟩:=z.ex;refine⟨f,fd,ps,e,FV.kp,hb,⟨λvs H Q E h=>zdk hP hp h,λA outer s H args us vs Q E hr e0 b v h=>?_⟩⟩;let⟨ι,S,ds,r,hh,w⟩:=h;exact w.elim
def ze1(tab:TabOk T (callF Pg n) m P w K mg base)(z:MOk K T Pg fi j Ex):∃f fd ps,Ex f/\keepIn K (.ref f)=Δ/\Binds K fd ps (List.replicate j Ω.none)/\FnOk P w K mg base CX0 (m+2) f fd ps (spF K (callF Pg (n+1)) fi):=by let⟨F,x,qual,st,dV,f,fd,N,ps,hP,hq,FV,S,ck,hp,hn,hb,e⟩:=z.ex;exact⟨f,fd,ps,e,FV.kp,hb,zkx tab FV hP S ck hp hn hq⟩
abbrev ExM(K:Frag)(c:Nat)(m:Str)(f:Addr):Prop:=∃C,Mks.cl[c]?=Φ C/\Cls K C/\Meth K C m f
abbrev ExI(K:Frag)(c:Nat)(f:Addr):Prop:=∃C,Mks.cl[c]?=Φ C/\Mk K C f
abbrev ExC(K:Frag)(mg:Str->Option Ω)(x m:Str)(f:Addr):Prop:=∃(C:Addr) (mc:Ω),mg x=Φ (.ref C)/\specialIn K (.ref C) "__getattribute__"=Φ (Φ (.builtin "type.__getattribute__"))/\readsIn K C mc=Δ/\findCls K (.ref C) mc m=Φ (.val (.ref f))
structure ClsOk(T:Tab)(K:Frag)(mg:Str->Option Ω)(Pg:List Fn):Prop where
 cls:∀(c:Nat)(x:Str),T.cls[c]?=Φ x->∃C,Mks.cl[c]?=Φ C/\Cls K C/\mg x=Φ (.ref C)/\∀f,T.flds.contains f=Δ->NoAttr K C f
 mth:∀(c:Nat)(m:Str)(fi:Nat),T.mts.contains (c,m,fi)=Δ->MOk K T Pg fi 0 (ExM K c m)
 ini:∀(c fi j:Nat),T.inits.contains (c,fi,j)=Δ->MOk K T Pg fi j (ExI K c)
 cmd:∀(x m:Str)(fi:Nat),T.cms.contains (x,m,fi)=Δ->MOk K T Pg fi 0 (ExC K mg x m)
 cln:Mks.cl.length<=T.cls.length
 isa:∀(x:Str)(cs:List Nat),T.isas.contains (x,cs)=Δ->∃D,mg x=Φ (.ref D)/\∀c C,Mks.cl[c]?=Φ C->IsaOk K C/\kitOne K (.ref C) (.ref D)=Φ (cs.contains c)
def zkk(h:∃f fd ps,ExM K c m f/\keepIn K (.ref f)=Δ/\Binds K fd ps []/\FnOk P w K mg base CX0 k f fd ps (spF K cf fi)):HasM P w K mg base k c m (spF K cf fi):=by let⟨f,fd,ps,⟨C,h1,h2,h3⟩,_,h4,h5⟩:=h;exact⟨C,f,fd,ps,h1,h2,h3,h5,h4⟩
def zkl(h:∃f fd ps,ExI K c f/\keepIn K (.ref f)=Δ/\Binds K fd ps (List.replicate j Ω.none)/\FnOk P w K mg base CX0 k f fd ps (spF K cf fi)):HasI P w K mg base k c j (spF K cf fi):=by let⟨f,fd,ps,⟨C,h1,h2⟩,_,h4,h5⟩:=h;exact⟨C,f,fd,ps,h1,h2,h5,h4⟩
def zkm(h:∃f fd ps,ExC K mg x m f/\keepIn K (.ref f)=Δ/\Binds K fd ps []/\FnOk P w K mg base CX0 k f fd ps (spF K cf fi)):HasC P w K mg base k x m (spF K cf fi):=by let⟨f,fd,ps,⟨C,mc,h1,h2,h3,h6⟩,h7,h4,h5⟩:=h;exact⟨C,f,fd,ps,mc,h1,h2,h3,h6,h7,h5,h4⟩
structure PrimOk(P:Χ)(w:ϒ)(K:Frag)(mg:Str->Option Ω)(base:Heap)(T:Tab)(Pg:List Fn)(fi:Nat)(x:Str)(ps:List Str)(nd:Nat):Prop where
 ex:∃(F:Fn) (p:Prim) (f:Addr) (fd:FuncData),Pg[fi]?=Φ F/\F.prim=Φ p/\F.np=ps.length/\mg x=Φ (.ref f)/\keepIn K (.ref f)=Δ/\(∀j,j<=nd->Binds K fd ps (List.replicate j Ω.none))/\
  ∀n,3<=n->TabOk T (callF Pg n) (2*n) P w K mg base->FnOk P w K mg base CX0 (2*n+2) f fd ps (spF K (callF Pg (n+1)) fi)
def zo5(hb:∀x,T.blt.contains x=Δ->mg x=Ψ)(hc:∀x d,T.cons.lookup x=Φ d->zno d=Δ/\∃u,mg x=Φ u/\RelV (sV d) u)(hd:∀fi x ps nd,T.fns[fi]?=Φ (x,ps,nd)->DefOk K mg T Pg fi x ps nd\/PrimOk P w K mg base T Pg fi x ps nd)(hk:ClsOk T K mg Pg) :
  ∀n,TabOk T (callF Pg n) (2*n) P w K mg base:=by
 intro n;induction n with
 |zero=>refine⟨hb,hc,λfi x ps nd hf j hj=>?_,zfZ Pg 0,hk.cls,λc m fi h=>zkk (ze0 (hk.mth c m fi h)),λc fi j h=>zkl (ze0 (hk.ini c fi j h)),λx m fi h=>zkm (ze0 (hk.cmd x m fi h)),λ_=>hk.cln,hk.isa⟩;rcases hd fi x ps nd hf with z|z;let⟨F,qual,st,dV,f,fd,N,hP,hq,FV,S,ck,hp,hn,hm,hbd⟩:=z.ex;refine⟨f,fd,_,⟨λvs H Q E h=>zdk hP hp h,λA outer s H args us vs Q E hr e0 b v h=>?_⟩,hm,FV.kp,hbd j hj,Vals.nons j⟩;let⟨ι,S,ds,r,hh,w⟩:=h;exact w.elim;let⟨F,p,f,fd,hP,hq,hp,hm,kp,hbd,ok⟩:=z.ex;refine⟨f,fd,_,⟨λvs H Q E h=>zdk hP hp h,λA outer s H args us vs Q E hr e0 b v h=>?_⟩,hm,kp,hbd j hj,Vals.nons j⟩;let⟨ι,S,ds,r,hh,w⟩:=h;exact w.elim
 |succ n ih=>
  refine⟨hb,hc,λfi x ps nd hf j hj=>?_,zfZ Pg (n+1),hk.cls,λc m fi h=>zkk (ze1 ih (hk.mth c m fi h)),λc fi j h=>zkl (ze1 ih (hk.ini c fi j h)),λx m fi h=>zkm (ze1 ih (hk.cmd x m fi h)),λ_=>hk.cln,hk.isa⟩;rcases hd fi x ps nd hf with z|z;let⟨F,qual,st,dV,f,fd,N,hP,hq,FV,S,ck,hp,hn,hm,hbd⟩:=z.ex;refine⟨f,fd,_,?_,hm,FV.kp,hbd j hj,Vals.nons j⟩;exact zkx ih FV hP S ck hp hn hq;let⟨F,p,f,fd,hP,hq,hp,hm,kp,hbd,ok⟩:=z.ex;refine⟨f,fd,_,?_,hm,kp,hbd j hj,Vals.nons j⟩;by_cases c:3<=n;exact(ok n c ih).mono (by lia)
  . refine⟨λvs H Q E h=>zdk hP hp h,λA outer s H args us vs Q E hr e0 b v h=>?_⟩;let⟨ι,S,ds,r,hh,w⟩:=h;cases p<;>(simp![callF,hP,hq,c,if_false]at w;split at w<;>exact w.elim)
abbrev AllAtG{α:Type}(P:Nat->α->Prop):Nat->List α->Prop
 |_,[]=>True|k,a::r=>P k a/\AllAtG P (k+1) r
def zmL{P}:∀{l:List α}{k:Nat},AllAtG P k l->∀(i:Nat)(a:α),l[i]?=Φ a->P (k+i) a
 | [],_,_,i,a,h=>by simp at h|b::r,k,q,0,a,h=>by cases h;exact q.1| b::r,k,q,i+1,a,h=>by
  have:=zmL q.2 i a (by simpa using h)
  rwa [Nat.add_right_comm]at this
def AllAt.get{P:Nat->α->Prop}{l:List α}(q:AllAtG P 0 l)(i)(a)(h:l[i]?=Φ a):P i a:=zero_add i▸zmL q i a h
abbrev AllInG{α:Type}(P:α->Prop):List α->Prop
 | []=>True|a::r=>P a/\AllInG P r
def AllIn.get[BEq α][LawfulBEq α]{P}:∀{l:List α},AllInG P l->∀a,l.contains a=Δ->P a
 | [],_,a,h=>by simp at h| b::r,q,a,h=>by rw[List.contains_cons,Ϯ]at h;rcases h with h|h;rw[eq_of_beq h];exact q.1;exact AllIn.get q.2 a h
def zn8{ns:List Int}(hx:FixL K H a (ns.map V.int))(tb:TB H)(law:W (callF Pg k fi [.fix (ns.map .int)] ⟨[],[],[]⟩) λd _=>d=.bl Δ):spF K (callF Pg k) fi [.ref a] H (λv _=>v=.bl Δ) λ_ _ _=>False:=by
 refine⟨[],⟨[],[],[]⟩,[.fix (ns.map .int)],⟨.ref a,[],rfl,⟨a,_,rfl,hx,RVs.ints ns⟩,rfl⟩,⟨rfl,List.nodup_nil,λl o e=>(by simp[St.get]at e),tb⟩,?_⟩;let⟨d,T',e,q⟩:=ziF law;rw[e];intro v H' ι' x r hT;subst q;exact r
def law_sp{ns:List Int}(h0:Mks.ts=[])(hO:Only H)(hS:SqL K H a (ns.map V.int))(law:W (callF Pg k fi [.fix (ns.map .int)] ⟨[],[],[]⟩) λd _=>d=.bl Δ):spF K (callF Pg k) fi [.ref a] H (λv _=>v=.bl Δ) λ_ _ _=>False:=by
 refine zn8 ?_ (λp hp=>by rw[h0]at hp;cases hp) law;rcases hS with (h|⟨o,h⟩)|h;rcases hO a with z|⟨o,xs,z⟩;rw[z]at h;exact nS h;rw[z]at h;cases h;exact .inl ⟨o,h⟩;exact .inr h
end
abbrev okD(T:Tab)(F:Fn)(N ps:List Str)(st:Stmt):Bool:=
 decide ((zad st).kind=.function)&&(!(zad st).isCoroutine&&(!(zad st).isGenerator&&(decide N.Nodup&&(decide (N.take ps.length=ps)&&(ps.all (λx=>decide ((zad st).names.lookup x=Φ .local)||decide ((zad st).names.lookup x=Φ .cell)) &&
  ((zad st).names.all (λy=>decide (y.2≠.free))&&(chkS T F.body N (zad st) (zas st)&&(decide (F.np=ps.length)&&(decide (F.nn=N.length)&&(F.prim.isNone&&decide (N≠T.lam)))))))))))
structure OkD(T:Tab)(Pg:List Fn)(fi:Nat)(x q:Str)(ps:List Str)(st:Stmt):Prop where
 ex:∃(F:Fn) (N:List Str),Pg[fi]?=Φ F/\F.prim=Ψ/\FnScope N ps (zad st)/\ChkD T F.body N (zad st) (zas st)/\F.np=ps.length/\F.nn=N.length
 bd:∀(kV doc pm:Ω)(an:Option Addr)(cdv ct:Ω)(us:List Ω),us.length=ps.length->bindArgs (fnOf x q (zaG st) (zas st) (zad st) .none kV doc pm an cdv ct) ⟨us,[]⟩=pure (ps.zip us)
def zaj{st}(N)(e:Pg[fi]?=Φ F)(h:okD T F N ps st=Δ)(b:∀(kV doc pm:Ω)(an:Option Addr)(cdv ct:Ω)(us:List Ω),us.length=ps.length->bindArgs (fnOf x q (zaG st) (zas st) (zad st) .none kV doc pm an cdv ct) ⟨us,[]⟩=pure (ps.zip us)):OkD T Pg fi x q ps st:=by
 simp![okD,Β,not_eq_true',decide_eq_true_eq,all_eq_true,Ϯ,Option.isNone_iff_eq_none]at h;let⟨h1,h2,h3,h4,h5,h6,h7,h8,h9,h10,h11,h12⟩:=h;exact⟨⟨F,N,e,h11,⟨h1,h2,h3,h4,h5,h6,h7⟩,⟨h8,h12⟩,h9,h10⟩,b⟩
def AllInG.cons{b:Type}{P:b->Prop}{a:b}{r:List b}(h:P a)(t:AllInG P r):AllInG P (a::r):=⟨h,t⟩
def AllAtG.cons{b:Type}{P:Nat->b->Prop}{k:Nat}{a:b}{r:List b}(h:P k a)(t:AllAtG P (k+1) r):AllAtG P k (a::r):=⟨h,t⟩
def AllInG.mem:∀{l:List c},AllInG P l->∀a∈l,P a
 |b::r,q,a,h=>by rcases mem_cons.mp h with rfl|h;exact q.1;exact AllInG.mem q.2 a h
section
variable{P:Χ}{w:ϒ}{K:Frag}{h base:Heap}{mg:Str->Option Ω}{T:Tab}{Pg:List Fn}{fi c:Nat}{x q m:Str}{ps:List Str}{st:Stmt}{f C:Addr}{oc kV dc pm cd ct:Ω}{od an:Option Addr}{sl:Array (Option Ω)}
def dOk(X:K.In h)(G:h.Ns mainGlobals mg)(o:OkD T Pg fi x x ps st)(a:nsIn K mainGlobals x=Φ (Φ (.ref f)))(l:K.lookup f=Φ ⟨oc,od,.func (fnOf x x (zaG st) (zas st) (zad st) .none kV dc pm an cd ct),sl⟩)(c:codeIn K cd x=Δ)
  (k:keepIn K (.ref f)=Δ):DefOk K mg T Pg fi x ps 0\/PrimOk P w K mg base T Pg fi x ps 0:=by
 let⟨F,N,h1,h2,h3,h4,h5,h6⟩:=o.ex;have FV:=zfa (st:=st) l c k;exact .inl ⟨⟨F,x,st,_,f,_,N,h1,h2,FV,h3,h4,h5,h6,mg_of X G a,λj hj=>(Nat.le_zero.mp hj).symm▸FV.binds o.bd⟩⟩
abbrev ClAt(K:Frag)(mg:Str->Option Ω)(T:Tab)(c:Nat)(x:Str):Prop:=∃C,Mks.cl[c]?=Φ C/\Cls K C/\mg x=Φ (.ref C)/\∀f,T.flds.contains f=Δ->NoAttr K C f
def clOk(X:K.In h)(G:h.Ns mainGlobals mg)(e:Mks.cl[c]?=Φ C)(a:nsIn K mainGlobals x=Φ (Φ (.ref C)))(b:plainGet K C Str.empty=Δ)(hd:hasDictIn K C=Δ)(d:plainOver K C=Δ)
  (g:findIn K (.ref C) "__setattr__"=Φ (Φ (.builtin "object.__setattr__"))) (n:AllInG (λf=>findIn K (.ref C) f=Φ Ψ) T.flds):ClAt K mg T c x:=
 ⟨C,e,⟨b,hd,d,g⟩,mg_of X G a,AllIn.get n⟩
def mOk0(o:OkD T Pg fi m q ps st)(l:K.lookup f=Φ ⟨oc,od,.func (fnOf m q (zaG st) (zas st) (zad st) .none kV dc pm an cd ct),sl⟩)(cc:codeIn K cd q=Δ)(k:keepIn K (.ref f)=Δ)(e:Ex f):MOk K T Pg fi 0 Ex:=by let⟨F,N,h1,h2,h3,h4,h5,h6⟩:=o.ex;have FV:=zfa (st:=st) l cc k;exact⟨⟨F,m,q,st,_,f,_,N,ps,h1,h2,FV,h3,h4,h5,h6,FV.binds o.bd,e⟩⟩
def mOk(b:AllAtG (ClAt K mg T) 0 T.cls)(o:OkD T Pg fi m q ps st)(e:Mks.cl[c]?=Φ C)(ex:T.cls[c]?=Φ x)(t:findIn K (.ref C) m=Φ (Φ (.ref f)))(l:K.lookup f=Φ ⟨oc,od,.func (fnOf m q (zaG st) (zas st) (zad st) .none kV dc pm an cd ct),sl⟩)
  (d:codeIn K cd q=Δ) (k:keepIn K (.ref f)=Δ) (i:isFn K (.ref f)=Δ):MOk K T Pg fi 0 (ExM K c m):=by
 let⟨g,a,j,_⟩:=AllAt.get b c x ex;exact mOk0 o l d k ⟨g,a,j,by rw[e]at a;cases a;exact⟨t,i,k⟩⟩
def iOk(o:OkD T Pg fi "__init__" q ps st)(e:Mks.cl[c]?=Φ C)(mk:makesIn K C=Δ)(t:findIn K (.ref C) "__init__"=Φ (Φ (.ref f)))(a:keepIn K (.ref C)=Δ)(l:K.lookup f=Φ ⟨oc,od,.func (fnOf "__init__" q (zaG st) (zas st) (zad st) .none kV dc pm an cd ct),sl⟩)
 (b:codeIn K cd q=Δ) (k:keepIn K (.ref f)=Δ) (i:isFn K (.ref f)=Δ):MOk K T Pg fi 0 (ExI K c):=mOk0 o l b k ⟨C,e,mk,t,i,a⟩
abbrev IsAt(K:Frag)(mg:Str->Option Ω)(z:Str×List Nat):Prop:=∃D,mg z.1=Φ (.ref D)/\∀c C,Mks.cl[c]?=Φ C->IsaOk K C/\kitOne K (.ref C) (.ref D)=Φ (z.2.contains c)
abbrev CoAt(K:Frag)(z:Str×D):Prop:=∃i t,z.2=.int i/\nsIn K mainGlobals z.1=Φ (Φ (.int i t))
def coOk(a:nsIn K mainGlobals x=Φ (Φ (.int i t))):CoAt K (x,.int i):=⟨i,t,rfl,a⟩
end
structure OkL(T:Tab)(Pg:List Fn)(fi:Nat)(x:Str)(ps:List Str)(nd:Nat)(st:Stmt):Prop where
 ex:∃F:Fn,Pg[fi]?=Φ F/\F.prim=Φ .lam/\FnScope T.lam ps (zad st)/\chkS T F.body T.lam (zad st) (zas st)=Δ/\F.np=ps.length/\F.nn=T.lam.length
structure OkE(T:Tab)(Pg:List Fn)(fi:Nat)(ps:List Str)(st:Stmt):Prop where
 ex:∃(F:Fn) (N:List Str),Pg[fi]?=Φ F/\F.prim=Ψ/\FnScope N ps (zad st)/\ChkD T F.body N (zad st) (zas st)/\F.np=ps.length/\F.nn=N.length
def zmo{st}(N)(e:Pg[fi]?=Φ F)(h:okD T F N ps st=Δ):OkE T Pg fi ps st:=by simp![okD,Β,not_eq_true',decide_eq_true_eq,all_eq_true,Ϯ,Option.isNone_iff_eq_none]at h;let⟨h1,h2,h3,h4,h5,h6,h7,h8,h9,h10,h11,h12⟩:=h;exact⟨F,N,e,h11,⟨h1,h2,h3,h4,h5,h6,h7⟩,⟨h8,h12⟩,h9,h10⟩
def iOkD{K}{st}{oc kV dc pm cd ct xc}(o:OkE T Pg fi ps st)(hn:ps.length=n+j)(h:∀(d:Addr)(kV doc pm:Ω)(an:Option Addr)(cdv ct:Ω)(us:List Ω),us.length=n->∃k,bindArgs (fnOf "__init__" q (zaG st) (zas st) (zad st) (.ref d) kV doc pm an cdv ct) ⟨us,[]⟩=seqItems? (.ref d)>>=k/\k (Φ items)=pure (ps.zip (us++List.replicate j Ω.none)))(e:Mks.cl[c]?=Φ C)(mk:makesIn K C=Δ)(t:findIn K (.ref C) "__init__"=Φ (Φ (.ref f)))(kc:keepIn K (.ref C)=Δ)(l:K.lookup f=Φ ⟨oc,od,.func (fnOf "__init__" q (zaG st) (zas st) (zad st) (.ref d) kV dc pm an cd ct),sl⟩)(cc:codeIn K cd q=Δ)(k:keepIn K (.ref f)=Δ)(i:isFn K (.ref f)=Δ)(ed:K.lookup d=Φ ⟨xc,xd,.seq items xn,xs⟩):MOk K T Pg fi j (ExI K c):=by
 let⟨F,N,h1,h2,h3,h4,h5,h6⟩:=o.ex;have FV:=zfa (st:=st) l cc k;exact⟨⟨F,"__init__",q,st,_,f,_,N,ps,h1,h2,FV,h3,h4,h5,h6,zq6 (ds:=List.replicate j Ω.none) n (by rw[length_replicate];exact hn) FV ed (h d),C,e,mk,t,i,kc⟩⟩
def all_of0{l:PySem.W.OpenLaw}{K}{st}{oc kV dc pm cd ct}(X:K.In h)(G:h.Ns mainGlobals mg)(hfa:mg "law"=Φ (.ref fa))(o:OkD T Pg fi "law" "law" [sn] st)(ln:Mks.cl.length<=T.cls.length)(hcl:AllAtG (ClAt K mg T) 0 T.cls)(hb:AllInG (λx=>nsIn K mainGlobals x=Φ Ψ) T.blt)(hc:AllInG (CoAt K) T.cons)(hd:∀base:Heap,AllAtG (λfi q=>DefOk K mg T Pg fi q.1 q.2.1 q.2.2\/PrimOk l.prog w K mg base T Pg fi q.1 q.2.1 q.2.2) 0 T.fns)(hm:AllAtG (ClAt K mg T) 0 T.cls->AllInG (λq=>MOk K T Pg q.2.2 0 (ExM K q.1 q.2.1)) T.mts)(hi:AllInG (λq=>MOk K T Pg q.2.1 q.2.2 (ExI K q.1)) T.inits)(hx:AllInG (λq=>MOk K T Pg q.2.2 0 (ExC K mg q.1 q.2.1)) T.cms)(hs:AllInG (IsAt K mg) T.isas)(a:nsIn K mainGlobals "law"=Φ (Φ (.ref f)))(l0:K.lookup f=Φ ⟨oc,od,.func (fnOf "law" "law" (zaG st) (zas st) (zad st) .none kV dc pm an cd ct),sl⟩)(c:codeIn K cd "law"=Δ)(k:keepIn K (.ref f)=Δ):
  ∃fd:FuncData,(∀(s:Ι)(v:Ω),BindsTo s fd ⟨[v],[]⟩ [(sn,v)])/\∀base:Heap,K.In base->base.Ns mainGlobals mg->FnOk l.prog w K mg base CX0 (2*n+2) fa fd [sn] (spF K (callF Pg (n+1)) fi):=by
 have e:=hfa.symm.trans (mg_of X G a);cases e;let⟨F,N,h1,h2,h3,h4,h5,h6⟩:=o.ex;refine⟨fnOf "law" "law" (zaG st) (zas st) (zad st) .none kV dc pm an cd ct,λs v=>.of_eq (o.bd _ _ _ _ _ _ [v] rfl),λbase _ _=>?_⟩;refine zkx (zo5 (λx hx=>PySem.W.mg_none_of X G (AllIn.get hb x hx)) (λx d hx=>?_) (λfi x ps nd hf=>AllAt.get (hd base) fi _ hf)
  ⟨AllAt.get hcl,λc m fi hx=>AllIn.get (hm hcl) (c,m,fi) hx,λc fi j hx=>AllIn.get hi (c,fi,j) hx,λx m fi h=>AllIn.get hx (x,m,fi) h,ln,λx cs hx=>AllIn.get hs (x,cs) hx⟩ n) (zfa (st:=st) l0 c k) h1 h3 h4 h5 h6 h2
 let⟨i,t,e,q⟩:=hc.mem (x,d) (PySem.mem_of_lookup hx);cases(show d=.int i from e);exact⟨rfl,_,mg_of X G q,⟨_,rfl⟩⟩
end R
namespace R
abbrev oD:Option Int->D|some i=>.int i|none=>.non
open PySem (PyData)
def ze3{α β:Type}{f}:∀{xs:List α}{ys:List β},xs.mapM f=Φ ys->∀y∈ys,∃x∈xs,f x=Φ y
 | [],ys,h,y,hy=>by simp at h;subst h;cases hy
 |x::xs,ys,h,y,hy=>by
  rw[mapM_cons]at h;cases e:f x with
  |none=>rw[e]at h;exact nS h
  |some z=>
   rw[e]at h;cases e2:xs.mapM f with
   |none=>rw[e2]at h;exact nS h
   |some zs=>rw[e2]at h;injection h with h;subst h;rcases mem_cons.mp hy with rfl|hy;exact⟨x,by simp,e⟩;let⟨u,hu,eu⟩:=ze3 e2 y hy;exact⟨u,by simp[hu],eu⟩
def zcp:∀{xs:List PyData},(∀x∈xs,PyData.eqv x x=Δ)->PyData.eqvAll xs xs=Δ
 | [],_=>by simp[PyData.eqvAll]|x::xs,h=>by simp[PyData.eqvAll,h x (by simp),zcp (xs:=xs) λy hy=>h y (by simp[hy])]
def znQ:∀{n:Nat}{d:D}{a:PyData},pd S n d=Φ a->PyData.eqv a a=Δ:=by
 intro n;induction n with
 |zero=>
  intro d a h;cases d<;>simp![pd]at h
  cases h;simp[PyData.eqv];cases h;simp[PyData.eqv];cases h;simp[PyData.eqv];split at h;cases h;simp[PyData.eqv];exact nS h;exact nS h;exact nS h;exact nS h
 |succ n ih=>
  intro d a h;cases d<;>simp![pd]at h
  cases h;simp[PyData.eqv];cases h;simp[PyData.eqv];cases h;simp[PyData.eqv];split at h;cases h;simp[PyData.eqv];exact nS h;rename_i ds;cases e:ds.mapM (pd S n) with
  |none=>rw[e]at h;exact nS h
  |some xs=>rw[e]at h;cases h;rw[PyData.eqv];exact zcp λx hx=>let ⟨d,_,hd⟩:=ze3 e x hx;ih hd
  split at h;rename_i ds _;cases e:ds.mapM (pd S n) with
  |none=>rw[e]at h;exact nS h
  |some xs=>rw[e]at h;cases h;rw[PyData.eqv];exact zcp λx hx=>let ⟨d,_,hd⟩:=ze3 e x hx;ih hd
  exact nS h;exact nS h
def zmE(h1:pd S 60 x=Φ a)(h2:pd S 60 y=Φ a):eqD S x y=Φ Δ:=by unfold eqD;rw[h1,h2];exact congrArg Φ (znQ h1)
def zeU(h:S.get l=Φ (.lst ds))(e:ds.mapM (pd S n)=Φ xs):pd S (n+1) (.ref l)=Φ (.list xs):=by simp![pd,h,e];rfl
def zgW(h1:S.get a=Φ (.lst ds))(h2:S.get b=Φ (.lst ds))(e:ds.mapM (pd S 59)=Φ xs):cmpO S .Eq (.ref a) (.ref b)=Φ Δ:=(zmE (zeU h1 e) (zeU h2 e))
def zcq(h1:S.get a=Φ (.lst ds))(h2:S.get b=Φ (.lst ds))(e:ds.mapM (pd S 59)=Φ xs):cmpO S .NotEq (.ref a) (.ref b)=Φ Θ:=by show(eqD S (.ref a) (.ref b)).map (!·)=_;rw[zmE (zeU h1 e) (zeU h2 e)];rfl
def zae(S:St)(o):(S.push o).get S.len=Φ o:=by
 have h:¬S.len<S.frz.length:=by unfold St.len;lia
 unfold St.get St.push;simp![h,if_false];unfold St.len;simp
def zah{S:St}(e:S.get l=Φ u):(S.push o).get l=Φ u:=by have h:=get_lt e;unfold St.len at h;unfold St.get at e⊢;unfold St.push;simp only;split;rename_i c;rw[if_pos c]at e;exact e;rename_i c;rw[if_neg c]at e;rw[getElem?_append_left (by omega)];exact e
def zeR{S:St}(o)(h1:S.frz.length<=l)(h2:S.lk.contains l=Θ):∃S',S.put l o=Φ S'/\S'.frz=S.frz/\S'.lk=S.lk/\S'.len=S.len/\(∀m,m≠l->S'.get m=S.get m)/\(l<S.len->S'.get l=Φ o):=by refine⟨{S with new:=S.new.set (l-S.frz.length) o},?_,rfl,rfl,by simp[St.len],λm hm=>?_,λhl=>?_⟩;unfold St.put;rw[if_neg (by lia),h2];rfl;unfold St.get;simp only;split;rfl;rw[getElem?_set_ne (by lia)];unfold St.len at hl;unfold St.get;simp![show ¬l<S.frz.length by lia,if_false];rw[getElem?_set_self (by lia)]
def zot(S)(i j):eqD S (.int i) (.int j)=Φ (i==j):=by unfold eqD;have e:∀k,pd S 60 (.int k)=Φ (.int k):=λk=>rfl;rw[e,e];show Φ (PyData.eqv (.int i) (.int j))=_;rw[L2.eqv_int]
def zhx(S)(x):∀ks:List Int,inD S (.int x) (ks.map .int)=Φ (decide (x∈ks)):=by
 intro ks;have e:(ks.map D.int).mapM (λz=>eqD S z (.int x))=Φ (ks.map λk=>k==x):=by induction ks with|nil=>rfl|cons k ks ih=>rw[ϊ,mapM_cons,zot,ih];rfl
 have f:∀ks:List Int,((ks.map λk=>k==x).any id)=decide (x∈ks):=by intro ks;induction ks with|nil=>rfl| cons k ks ih=>rw[ϊ,any_cons,ih];by_cases c:k=x;subst c;simp;have c':¬x=k:=λz=>c z.symm;have b:(k==x)=Θ:=beq_eq_false_iff_ne.mpr c;simp![b,id,Bool.false_or,mem_cons,c',false_or]
 unfold inD;rw[e];exact congrArg Φ (f ks)
def zqS{ks:List Int}(h:S.get l=Φ (.lst (ks.map .int)))(x):cmpO S .In (.int x) (.ref l)=Φ (decide (x∈ks)):=by
 show zfX S (.int x) (.ref l)=_;unfold zfX;have h3:d3K S (.ref l)=Ψ:=by unfold d3K;dsimp only;rw[h]
 rw[h3];show((match S.get l with|some (.lst ds)=>Φ ds|_=>Ψ).bind λys=>inD S (.int x) ys)=_;rw[h];exact zhx S x ks
def zfI{ks:List Int}(h:S.get l=Φ (.lst (ks.map .int)))(x):cmpO S .NotIn (.int x) (.ref l)=Φ (!decide (x∈ks)):=by show(cmpO S .In (.int x) (.ref l)).map (!·)=_;rw[zqS h];rfl
def zcr{xs:List α}{k:Nat}{x:α}(h:xs[k]?=Φ x):R.atI xs (k:Int)=Φ x:=by
 have hl:=(Ζ.mp h).1;have e:R.ixN xs.length (k:Int)=Φ k:=by simp[R.ixN,hl]
 unfold R.atI;rw[e];exact h
def atI_0:R.atI (x::xs) 0=Φ x:=by
 have:R.ixN (x::xs).length 0=Φ 0:=by simp[R.ixN]
 unfold R.atI;rw[this];rfl
def atI_1:R.atI (x::y::xs) 1=Φ y:=by
 have:R.ixN (x::y::xs).length 1=Φ 1:=by simp[R.ixN];lia
 unfold R.atI;rw[this];rfl
abbrev zbP(ns:List Int)(k:Nat):Int:=match ns[k]? with|some v=>v%10^64|none=>0
def zba:∀ks:List Int,zaI (ks.map D.int)=Φ ks
 | []=>rfl| k::ks=>by unfold zaI;rw[ϊ,mapM_cons,show(ks.map D.int).mapM zea=Φ ks from zba ks];rfl
end R
section
namespace Kz
local macro_rules|`(#[$x])=>`(.cons $x .nil)|`(#[$x,$y,*])=>`(.cons $x #[$y,*])
local macro_rules|`($x:ident)=>let s:=x.getId.toString;let n:=Lean.Syntax.mkNumLit (s.drop 1).toString;if s.length<2||!(s.drop 1).all Char.isDigit then Lean.Macro.throwUnsupported else if s.front=='J' then `(.loc $n) else if s.front=='U' then `(.con (.int $n)) else Lean.Macro.throwUnsupported
local macro_rules | `(tactic| exists $e)=>`(tactic| refine R.wOpt_of $e ?_)
local macro_rules | `(tactic| change $e)=>`(tactic| refine R.wNeed_of $e ?_)
local macro_rules | `(tactic| specialize $e)=>`(tactic| refine R.wOut_of $e ?_)
local macro_rules | `(tactic| left)=>`(tactic| conv=>whnf)
local macro_rules | `(tactic| right)=>`(tactic| refine R.wNeed_of (by first|decide|lia|(simp;done)|(simp;lia)) ?_)
section
open PySem R L2
abbrev zez:Fn:=⟨1,1,(.ret (.and (.bi (.isin "int") #[J0]) (.nt (.bi (.isin "bool") #[J0]))) .nil),Ψ⟩
abbrev zgf:Fn:=⟨2,2,(.ret (.and (.call 0 0 #[J0]) (.cmp2 .LtE .Lt U0 J0 J1)) .nil),Ψ⟩
abbrev zgc:Fn:=⟨1,1,(.ret (.and (.call 0 0 #[J0]) (.cmp .Lt (.bi .abs #[J0]) (.bin .Pow U10 U60))) .nil),Ψ⟩
abbrev zeA:Fn:=⟨3,3,(.ifS (.or (.nt (.tst (.call 0 0 #[J0]))) (.nt (.cmp2 .LtE .LtE J1 J0 J2)))
 .stop .nil (.ret J0 .nil)),Ψ⟩
abbrev zgg:Fn:=⟨2,2,(.ifS (.nt (.tst (.call 1 0 #[J0,J1])))
 .stop .nil (.ret J0 .nil)),Ψ⟩
abbrev zga:Fn:=⟨1,1,(.ifS (.nt (.tst (.call 2 0 #[J0])))
 .stop .nil (.ret J0 .nil)),Ψ⟩
abbrev zge:Fn:=⟨2,2,(.ifS (.or (.nt (.tst (.bi (.isin "tuple") #[J0]))) (.nt (.cmp2 .LtE .LtE U1 (.bi .len #[J0]) U7))) (.ret (.con (D.bl Θ)) .nil) .nil (.ifS (.nt (.tst (.all (.comp 1 [1] [0] (.val J0) (.tst (.con (D.bl Δ))) (.call 1 0 #[J0,J1]))))) (.ret (.con (D.bl Θ)) .nil) .nil (.ret (.cmp .Eq (.lenset (.val J0)) (.bi .len #[J0])) .nil))),Ψ⟩
abbrev zcH:Fn:=⟨2,3,(.ifS (.cmp .Is J1 (.con D.non)) (.ret (.tup .nil) .nil) .nil (.asg 2 (.mkL (.comp 1 [0] [0] (.val J1) (.tst (.con (D.bl Δ))) (.call 4 0 #[J0,J1]))) (.ret (.mkT (.val (.sset J2))) .nil))),Ψ⟩
abbrev zc2:Fn:=⟨2,4,(.ifS (.cmp .Is J1 (.con D.non)) (.ret (.tup .nil) .nil) .nil (.forS [2,3] (.enum J1) (.ifS (.nt (.tst (.call 9 0 #[J3,J0])))
 .stop .nil .nil) (.ret (.mkT (.val J1)) .nil))),Ψ⟩
abbrev zhL:Fn:=⟨2,2,(.ifS (.or (.nt (.tst (.bi (.isin "tuple") #[J0]))) (.cmp .NotEq (.bi .len #[J0]) U4)) (.ret (.con (D.bl Θ)) .nil) .nil (.ifS (.or (.nt (.tst (.call 10 0 #[.ix J0 U0]))) (.nt (.tst (.call 6 0 #[.ix J0 U1,J1])))) (.ret (.con (D.bl Θ)) .nil) .nil (.ifS (.or (.nt (.tst (.call 1 0 #[.ix J0 U2,J1]))) (.cmp .In (.ix J0 U2) (.ix J0 U1))) (.ret (.con (D.bl Θ)) .nil) .nil (.ret (.or (.cmp .Is (.ix J0 U3) (.con D.non)) (.call 2 0 #[.ix J0 U3])) .nil)))),Ψ⟩
abbrev zgd:Fn:=⟨1,1,(.ret (.and (.call 0 0 #[J0]) (.cmp2 .LtE .LtE U1 J0 U30)) .nil),Ψ⟩
abbrev zdX:Fn:=⟨2,2,(.ret (.ite (.cmp .Is J0 (.con D.non)) (.bin .Add J1 U1) (.call 3 0 #[J0,U1,U8])) .nil),Ψ⟩
abbrev zcJ:Fn:=⟨2,2,(.ifS (.cmp .Lt J1 (.bi .len #[J0])) (.ret (.bin .Mod (.ix J0 J1) (.bin .Pow U10 U64)) .nil) .nil (.ret U0 .nil)),Ψ⟩
abbrev zdY:Fn:=⟨1,1,(.ret (.and (.bi (.isin "int") #[J0]) (.nt (.bi (.isin "bool") #[J0]))) .nil),Ψ⟩
abbrev zew:Fn:=⟨1,1,(.ret (.and (.bi (.isin "tuple") #[J0]) (.all (.comp 1 [] [0] (.val J0) (.tst (.con (D.bl Δ))) (.call 13 0 #[J0])))) .nil),Ψ⟩
abbrev zgb:Fn:=⟨1,1,(.ret (.bin .Sub (.bin .Mod J0 (.bin .Sub (.bin .Mult U2 (.bin .Pow U10 U60)) U1)) (.bin .Sub (.bin .Pow U10 U60) U1)) .nil),Ψ⟩
abbrev zdZ:Fn:=⟨2,5,(.asg 2 (.lst .nil) (.asg 3 (.bin .Add U5 (.bin .Mod J0 U400000009)) (.forS [4] (.rng1 J1) (.asg 3 (.bin .Mod (.bin .Add (.bin .Add (.bin .Mult J3 U7817) (.bin .Mult (.bin .Add J4 U3) (.bin .FloorDiv J3 U11))) U20011) U871349951) (.expr (.mt .append J2 #[.bin .FloorDiv J3 U13]) .nil)) (.ret J2 .nil)))),Ψ⟩
abbrev zey:Fn:=⟨3,8,(.asg 3 (.mkL (.rng1 J1)) (.asg 4 (.tup .nil) (.forS [5] (.rng1 (.bin .Add U1 (.bin .Mod (.bin .Mod J0 U7) (.bin .Sub J1 U1)))) (.asg 0 (.bin .FloorDiv J0 U7) (.asg 4 (.bin .Add J4 (.tup #[.mt .popAt J3 #[.bin .Mod (.bin .Mod J0 U7) (.bi .len #[J3])]])) .nil)) (.asg 0 (.bin .FloorDiv J0 U7) (.asg 6 (.ix J3 (.bin .Mod (.bin .Mod J0 U7) (.bi .len #[J3]))) (.asg 0 (.bin .FloorDiv J0 U7) (.asg 7 (.ix (.lst #[.bi .len #[J4],.bin .Add U1 (.bin .Mod (.bin .FloorDiv J0 U2) U30)]) (.bin .Mod J0 U2)) (.ret (.tup #[J7,J4,J6,.ix (.bin .Add J2 (.lst #[.con D.non])) (.bin .Mod (.bin .FloorDiv J0 U60) U5)]) .nil)))))))),Ψ⟩
abbrev c_law_lie:Fn:=⟨5,11,(.ifS (.cmp .Eq (.bin .Mod J0 U2) U1) (.ret (.call 17 0 #[.bin .FloorDiv J0 U2,J1,J4]) .nil) .nil (.asg 5 (.call 16 0 #[.bin .FloorDiv J0 U2,U6]) (.asg 6 (.tup #[.bin .Mod (.bin .Add J2 (.ix (.lst #[U0,U0,U0,.ix J5 U2]) (.bin .Mod (.bin .FloorDiv (.ix J5 U0) U64) U4))) J1]) (.asg 7 (.ix J4 (.bin .Mod (.ix J5 U0) U4)) (.ifS (.and (.cmp .Gt (.bi .len #[J3]) U0) (.cmp .Gt (.bin .Mod (.ix J5 U1) U4) U0)) (.asg 8 (.ix J3 (.bin .Mod (.ix J5 U2) (.bi .len #[J3]))) (.asg 6 (.ix J8 U1) (.asg 7 (.ix J8 U3) (.ifS (.and (.cmp .Gt (.bin .Mod (.ix J5 U1) U4) U1) (.cmp .Lt (.bin .Add (.bi .len #[J6]) U1) J1)) (.asg 6 (.bin .Add J6 (.tup #[.ix J8 U2])) .nil) .nil .nil)))) .nil (.ifS (.and (.cmp .Eq (.bin .Mod (.ix J5 U3) U2) U1) (.cmp .Lt (.bin .Add (.bi .len #[J6]) U1) J1)) (.asg 9 (.mkL (.comp 1 [6] [0] (.rng1 J1) (.cmp .NotIn J0 J1) J0)) (.asg 6 (.bin .Add J6 (.tup #[.ix J9 (.bin .Mod (.bin .FloorDiv (.ix J5 U3) U2) (.bi .len #[J9]))])) .nil)) .nil (.ifS (.cmp .Eq (.bin .Mod (.ix J5 U5) U16) U7) (.asg 6 (.slS J6 (.neg U1)) .nil) .nil (.asg 10 (.bi .len #[J6]) (.ifS (.cmp .Eq (.bin .Mod (.bin .FloorDiv (.ix J5 U5) U16) U8) U3) (.asg 10 (.bin .Add U1 (.bin .Mod (.bin .FloorDiv (.ix J5 U5) U128) U30)) .nil) .nil (.ifS (.cmp .Eq (.bin .Mod (.bin .FloorDiv (.ix J5 U0) U4) U16) U5) (.asg 7 (.con D.non) .nil) .nil (.asg 9 (.mkL (.comp 1 [6] [0] (.rng1 J1) (.cmp .NotIn J0 J1) J0)) (.ret (.tup #[J10,J6,.ix J9 (.bin .Mod (.ix J5 U4) (.bi .len #[J9])),J7]) .nil)))))))))))),Ψ⟩
abbrev zex:Fn:=⟨4,6,(.asg 4 (.lst .nil) (.ifS (.cmp .Gt J1 U1) (.forS [5] (.val J0) (.expr (.mt .append J4 #[.call 18 0 #[.bin .Mod J5 (.bin .Pow U10 U64),J1,J2,J4,J3]]) .nil) .nil) .nil (.ret J4 .nil))),Ψ⟩
abbrev zeu:Fn:=⟨2,4,(.asg 2 (.lst .nil) (.forS [3] (.rng1 J1) (.ifS (.cmp .Eq (.bin .Mod J0 U3) U0) (.expr (.mt .append J2 #[J3]) .nil) .nil (.asg 0 (.bin .FloorDiv J0 U3) .nil)) (.ret J2 .nil))),Ψ⟩
abbrev zcI:Fn:=⟨1,6,(.asg 1 (.bin .Add U1 (.bin .Mod (.call 12 0 #[J0,U0]) U7)) (.asg 2 (.call 20 0 #[.call 12 0 #[J0,U1],J1]) (.asg 3 (.bin .Mod (.call 12 0 #[J0,U2]) J1) (.asg 4 (.lst #[.call 15 0 #[.call 12 0 #[J0,U3]],.call 15 0 #[.call 12 0 #[J0,U4]],U0,.bin .Sub (.bin .Mod (.call 12 0 #[J0,U4]) U5) U2]) (.asg 5 (.call 19 0 #[.sl J0 Δ Δ U5 U62,J1,J3,J4]) (.ret (.tup #[J1,.bin .Mod (.bin .FloorDiv (.call 12 0 #[J0,U0]) U7) U6,J2,J3,.ix J4 (.bin .Mod (.bin .FloorDiv (.call 12 0 #[J0,U2]) U7) U4),J5]) .nil)))))),Ψ⟩
abbrev zbR:Fn:=⟨2,3,(.asg 2 (.bin .FloorDiv (.call 12 0 #[J0,U2]) U28) (.ifS (.cmp .Eq (.bin .Mod J2 U2) U0) (.ret (.tup #[.con D.non,.bin .Add J1 U1]) .nil) .nil (.ret (.tup #[.bin .Add U1 (.bin .Mod (.bin .FloorDiv J2 U2) U8),.bin .Add U1 (.bin .Mod (.bin .FloorDiv J2 U2) U8)]) .nil))),Ψ⟩
abbrev c_law_due:Fn:=⟨4,10,(.asg 4 (.lst .nil) (.ifS (.cmp .Eq J1 J2) (.expr (.mt .append J4 #[.tup #[J3,.tup .nil]]) .nil) .nil (.forS [5,6,7,8,9] (.val J0) (.ifS (.and (.cmp .Eq J7 J1) (.and (.tst J9) (.and (.cmp .Eq (.bi .len #[J6]) J5) (.and (.cmp .Eq (.ix J6 U0) J2) (.cmp .Lt (.bi .len #[J4]) U2))))) (.ifS (.cmp .NotIn J8 (.mkL (.comp 1 [] [0] (.val J4) (.tst (.con (D.bl Δ))) (.ix J0 U0)))) (.expr (.mt .append J4 #[.tup #[J8,J6]]) .nil) .nil .nil) .nil .nil) (.ret J4 .nil)))),Ψ⟩
abbrev zev:Fn:=⟨2,3,(.ifS (.or (.nt (.tst (.bi (.isin "list") #[J0]))) (.cmp .NotEq J0 J1)) (.ret (.con (D.bl Θ)) .nil) .nil (.forS [2] (.val J0) (.ifS (.or (.nt (.tst (.bi (.isin "tuple") #[J2]))) (.or (.nt (.tst (.call 13 0 #[.ix J2 U0]))) (.nt (.tst (.call 14 0 #[.ix J2 U1]))))) (.ret (.con (D.bl Θ)) .nil) .nil .nil) (.ret (.con (D.bl Δ)) .nil))),Ψ⟩
abbrev c_law:Fn:=⟨1,14,(.asgT [1,2,3,4,5,6] (.call 21 0 #[J0]) (.asgT [7,8] (.call 22 0 #[J0,J2]) (.asg 9 (.mk 1 30 "Signed" 0 #[.mk 2 39 "Setting" 0 #[J1,J2,.mkL (.val J3),.mkL (.val J6)],J4,J5,J7]) (.asg 10 (.lst .nil) (.forS [11] (.rng1 J1) (.asg 12 (.call 23 0 #[.meth "letters" [(1,35)] J9 .nil,J11,J4,J5]) (.asg 13 (.meth "kept" [(1,34)] J9 #[J11]) (.ifS (.nt (.tst (.call 24 0 #[J13,J12]))) (.ret (.con (D.bl Θ)) .nil) .nil (.expr (.mt .append J13 #[U0]) (.expr (.mt .append J10 #[U0]) (.ifS (.cmp .Eq (.bi .len #[J12]) U1) (.setIx J10 (.neg U1) (.ix (.ix J12 U0) U0) .nil) .nil (.ifS (.or (.nt (.tst (.call 13 0 #[.meth "ending" [(1,31)] J9 #[J11]]))) (.or (.cmp .NotEq (.meth "ending" [(1,31)] J9 #[J11]) (.ix J10 (.neg U1))) (.cmp .NotEq (.meth "kept" [(1,34)] J9 #[J11]) J12))) (.ret (.con (D.bl Θ)) .nil) .nil .nil))))))) (.asg 13 (.meth "endings" [(1,32)] J9 .nil) (.ifS (.or (.nt (.tst (.bi (.isin "list") #[J13]))) (.or (.nt (.tst (.all (.comp 1 [] [0] (.val J13) (.tst (.con (D.bl Δ))) (.call 13 0 #[J0]))))) (.cmp .NotEq J13 J10))) (.ret (.con (D.bl Θ)) .nil) .nil (.expr (.mt .append J13 #[U0]) (.ret (.cmp .Eq (.meth "endings" [(1,32)] J9 .nil) J10) .nil))))))))),Ψ⟩
abbrev zd0:Fn:=⟨1,1,(.setF J0 "made" .dnew3 .nil),Ψ⟩
abbrev zch:Fn:=⟨3,3,(.ret (.all (.comp 2 [2,0,1] [0,1] (.enum J1) (.tst (.con (D.bl Δ))) (.meth "has" [(0,28)] J3 #[J1,.sl J4 Θ Δ (.con .non) J0,J2]))) .nil),Ψ⟩
abbrev zeB:Fn:=⟨4,4,(.ret (.cmp .In (.tup #[J1,J2,J3]) (.fld J0 "made")) .nil),Ψ⟩
abbrev zc3:Fn:=⟨4,4,(.setIx (.fld J0 "made") (.tup #[J1,J2,J3]) (.con (D.bl Δ)) .nil),Ψ⟩
abbrev zbu:Fn:=⟨5,8,(.setF J0 "many" (.fld J1 "many") (.setF J0 "sender" (.call 4 0 #[J2,.fld J1 "many"]) (.asg 5 (.tup #[.call 5 0 #[J3],.tup .nil]) (.asg 6 (.call 11 0 #[J4,.fld J1 "bound"]) (.setF J0 "keeping" (.mkL (.comp 1 [2,5] [0] (.rng1 (.fld J1 "many")) (.tst (.con (D.bl Δ))) (.ite (.cmp .Eq J0 J1) (.lst #[J2]) (.lst .nil)))) (.setF J0 "book" (.mk 0 26 "Book" 0 .nil) (.setF J0 "sent" (.lst .nil) (.forS [7] (.rng2 U1 (.bin .Add J6 U1)) (.expr (.meth "play_round" [(1,36)] J0 #[J1,J7]) .nil) .nil)))))))),Ψ⟩
abbrev zbS:Fn:=⟨2,3,(.asg 2 (.meth "kept" [(1,34)] J0 #[J1]) (.ret (.ite (.cmp .Eq (.bi .len #[J2]) U1) (.ix (.ix J2 U0) U0) U0) .nil)),Ψ⟩
abbrev zbB:Fn:=⟨1,1,(.ret (.mkL (.comp 1 [0] [0] (.rng1 (.fld J0 "many")) (.tst (.con (D.bl Δ))) (.meth "ending" [(1,31)] J1 #[J0]))) .nil),Ψ⟩
abbrev zcL:Fn:=⟨4,5,(.asg 4 (.ix (.fld J0 "keeping") J1) (.ifS (.and (.cmp .Lt (.bi .len #[J4]) U2) (.cmp .NotIn J2 (.mkL (.comp 1 [] [0] (.val J4) (.tst (.con (D.bl Δ))) (.ix J0 U0))))) (.expr (.mt .append J4 #[.tup #[J2,J3]]) .nil) .nil .nil)),Ψ⟩
abbrev zcK:Fn:=⟨2,2,(.ret (.mkL (.val (.ix (.fld J0 "keeping") (.call 4 0 #[J1,.fld J0 "many"])))) .nil),Ψ⟩
abbrev zbA:Fn:=⟨1,1,(.ret (.mkL (.val (.fld J0 "sent"))) .nil),Ψ⟩
abbrev zbc:Fn:=⟨3,8,(.asg 3 (.bin .Add (.meth "written_by_trues" [(1,38)] J0 #[J1,J2]) (.meth "written_by_lies" [(1,37)] J0 #[J1,J2])) (.forS [4,5,6] (.val (.ssetP J3)) (.asg 7 (.meth "genuine" [(0,27)] (.fld J0 "book") #[J4,J6]) (.expr (.mt .append (.fld J0 "sent") #[.tup #[J2,J4,J5,J6,J7]]) (.ifS (.and (.tst J7) (.and (.cmp .Eq (.bi .len #[J4]) J2) (.cmp .Eq (.ix J4 U0) (.fld J0 "sender")))) (.expr (.meth "keep" [(1,33)] J0 #[J5,J6,J4]) .nil) .nil .nil))) .nil)),Ψ⟩
abbrev zaL:Fn:=⟨3,9,(.asg 3 (.mkL (.comp 1 [2] [0] (.val (.fld J1 "lies")) (.and (.cmp .Eq (.ix J0 U0) J1) (.cmp .IsNot (.ix J0 U3) (.con D.non))) (.sl J0 Δ Θ U1 (.con .non)))) (.forS [4,5,6] (.val J3) (.forS [7,8] (.enum J4) (.ifS (.cmp .In J8 (.fld J1 "liars")) (.expr (.meth "stamp" [(0,29)] (.fld J0 "book") #[J8,.sl J4 Θ Δ (.con .non) J7,J6]) .nil) .nil .nil) .nil) (.ret J3 .nil))),Ψ⟩
abbrev zaK:Fn:=⟨3,8,(.asg 3 (.lst .nil) (.forS [4] (.val (.meth "trues" [(2,40)] J1 .nil)) (.forS [5,6] (.val (.ix (.fld J0 "keeping") J4)) (.ifS (.cmp .Eq (.bi .len #[J6]) (.bin .Sub J2 U1)) (.expr (.meth "stamp" [(0,29)] (.fld J0 "book") #[J4,J6,J5]) (.asg 7 (.bin .Add J6 (.tup #[J4])) (.expr (.ext J3 (.comp 1 [7,5] [0] (.rng1 (.fld J0 "many")) (.cmp .NotIn J0 J1) (.tup #[J1,J0,J2]))) .nil))) .nil .nil) .nil) (.ret J3 .nil))),Ψ⟩
abbrev zbj:Fn:=⟨5,5,(.setF J0 "many" (.call 3 0 #[J1,U1,U7]) (.setF J0 "bound" (.call 3 0 #[J2,U0,U5]) (.setF J0 "liars" (.call 7 0 #[J1,J3]) (.setF J0 "lies" (.call 8 0 #[J1,J4]) .nil)))),Ψ⟩
abbrev zbT:Fn:=⟨1,1,(.ret (.mkL (.comp 1 [0] [0] (.rng1 (.fld J0 "many")) (.cmp .NotIn J0 (.fld J1 "liars")) J0)) .nil),Ψ⟩
abbrev prog:List Fn:=[zez,zgf,zgc,zeA,zgg,zga,zge,zcH,zc2,zhL,zgd,zdX,zcJ,zdY,zew,zgb,zdZ,zey,c_law_lie,zex,zeu,zcI,zbR,c_law_due,zev,c_law,zd0,zch,zeB,zc3,zbu,zbS,zbB,zcL,zcK,zbA,zbc,zaL,zaK,zbj,zbT]
abbrev top(i:Nat):Stmt:=PySem.Challenge.pw_traitorround_k46_what_is_kept.main.body.getD i (.Pass ⟨0,0,0,0⟩)
noncomputable abbrev zgF:Stmt:=top 9
noncomputable abbrev zh8:Stmt:=top 10
noncomputable abbrev zh5:Stmt:=top 11
noncomputable abbrev zgG:Stmt:=top 12
noncomputable abbrev zh9:Stmt:=top 13
noncomputable abbrev zh1:Stmt:=top 14
noncomputable abbrev zh7:Stmt:=top 17
noncomputable abbrev zd2:Stmt:=top 24
noncomputable abbrev zeO:Stmt:=top 25
noncomputable abbrev zjl:Stmt:=top 26
noncomputable abbrev zh6:Stmt:=top 27
noncomputable abbrev zfA:Stmt:=top 28
noncomputable abbrev zd4:Stmt:=top 35
noncomputable abbrev zfB:Stmt:=top 36
noncomputable abbrev zgC:Stmt:=top 37
noncomputable abbrev zh4:Stmt:=top 38
noncomputable abbrev zfC:Stmt:=top 39
noncomputable abbrev zgE:Stmt:=top 40
noncomputable abbrev zh2:Stmt:=top 41
noncomputable abbrev zgD:Stmt:=top 42
noncomputable abbrev zgA:Stmt:=top 43
noncomputable abbrev zd3:Stmt:=top 44
noncomputable abbrev zeP:Stmt:=top 45
noncomputable abbrev zh3:Stmt:=top 46
noncomputable abbrev zgB:Stmt:=top 47
noncomputable abbrev zpP:Stmt:=top 48
abbrev zcn(s:Stmt)(j:Nat):Stmt:=match s with|.ClassDef _ _ _ b _ _ _ _ _ _ _=>b.getD j (.Pass ⟨0,0,0,0⟩)|s=>s
noncomputable abbrev zfD:Stmt:=zcn (top 30) 0
noncomputable abbrev zdy:Stmt:=zcn (top 30) 3
noncomputable abbrev zgH:Stmt:=zcn (top 30) 2
noncomputable abbrev zeQ:Stmt:=zcn (top 30) 1
noncomputable abbrev zd7:Stmt:=zcn (top 33) 0
noncomputable abbrev zc7:Stmt:=zcn (top 33) 7
noncomputable abbrev zcR:Stmt:=zcn (top 33) 8
noncomputable abbrev zd6:Stmt:=zcn (top 33) 4
noncomputable abbrev zd5:Stmt:=zcn (top 33) 6
noncomputable abbrev zcQ:Stmt:=zcn (top 33) 5
noncomputable abbrev zb8:Stmt:=zcn (top 33) 1
noncomputable abbrev zbg:Stmt:=zcn (top 33) 3
noncomputable abbrev zbd:Stmt:=zcn (top 33) 2
noncomputable abbrev zdx:Stmt:=zcn (top 23) 0
noncomputable abbrev zc8:Stmt:=zcn (top 23) 1
noncomputable instance mks:R.Mks:={ts:=[],cl:=[260,335,180]}
abbrev tab:Tab:=⟨["abs","all","bool","enumerate","int","isinstance","len","list","range","set","sorted","tuple"],[("STILL",(D.int 0)),("LONGEST",(D.int 7)),("MOST_HANDS",(D.int 7)),("GREATEST_BOUND",(D.int 5)),("LAST_TURN",(D.int 30)),("MOST_ROUNDS",(D.int 8)),("MOST_KEPT",(D.int 2))],("is_whole",["thing"],0)::("is_hand",["thing","many"],0)::("is_word",["thing"],0)::("count_of",["thing","least","greatest"],0)::("hand_of",["thing","many"],0)::("word_of",["thing"],0)::("is_path",["thing","many"],0)::("lying_among",["many","liars"],0)::("lies_among",["many","lies"],0)::("is_lie",["thing","many"],0)::("is_turn",["thing"],0)::("rounds_of",["told","bound"],0)::("_law_cell_at",["_law_script","_law_k"],0)::("_law_whole",["_law_found"],0)::("_law_path",["_law_found"],0)::("_law_big",["_law_cell"],0)::("_law_mixed",["_law_cell","_law_many"],0)::("_law_free",["_law_number","_law_many","_law_words"],0)::("_law_lie",["_law_cell","_law_many","_law_sender","_law_told","_law_words"],0)::("_law_lies",["_law_cells","_law_many","_law_sender","_law_words"],0)::("_law_some",["_law_cell","_law_many"],0)::("_law_setting",["_law_script"],0)::("_law_rounds",["_law_script","_law_bound"],0)::("_law_due",["_law_letters","_law_hand","_law_sender","_law_word"],0)::("_law_rows",["_law_found","_law_due_here"],0)::("law",["_law_script"],0)::[],["Book","Signed","Setting"],["many","bound","liars","lies","made","sender","keeping","book","sent"],[(1,"ending",31),(1,"endings",32),(0,"genuine",27),(0,"has",28),(1,"keep",33),(1,"kept",34),(1,"letters",35),(1,"play_round",36),(0,"stamp",29),(2,"trues",40),(1,"written_by_lies",37),(1,"written_by_trues",38)],[(1,30,0),(2,39,0),(0,26,0)],[],[],["lambda"],0⟩
def O27:OkD tab prog 0 "is_whole" "is_whole" ["thing"] zgF:=zaj ["thing"] rfl (by decide +kernel) λ_ _ _ _ _ _=>usS λ_=>usZ rfl
def O38:OkD tab prog 1 "is_hand" "is_hand" ["thing","many"] zh8:=zaj ["thing","many"] rfl (by decide +kernel) λ_ _ _ _ _ _=>usS λ_=>usS λ_=>usZ rfl
def O35:OkD tab prog 2 "is_word" "is_word" ["thing"] zh5:=zaj ["thing"] rfl (by decide +kernel) λ_ _ _ _ _ _=>usS λ_=>usZ rfl
def O26:OkD tab prog 3 "count_of" "count_of" ["thing","least","greatest"] zgG:=zaj ["thing","least","greatest"] rfl (by decide +kernel) λ_ _ _ _ _ _=>usS λ_=>usS λ_=>usS λ_=>usZ rfl
def O37:OkD tab prog 4 "hand_of" "hand_of" ["thing","many"] zh9:=zaj ["thing","many"] rfl (by decide +kernel) λ_ _ _ _ _ _=>usS λ_=>usS λ_=>usZ rfl
def O30:OkD tab prog 5 "word_of" "word_of" ["thing"] zh1:=zaj ["thing"] rfl (by decide +kernel) λ_ _ _ _ _ _=>usS λ_=>usZ rfl
def O36:OkD tab prog 6 "is_path" "is_path" ["thing","many"] zh7:=zaj ["thing","many"] rfl (by decide +kernel) λ_ _ _ _ _ _=>usS λ_=>usS λ_=>usZ rfl
def O9:OkD tab prog 7 "lying_among" "lying_among" ["many","liars"] zd2:=zaj ["many","liars","told"] rfl (by decide +kernel) λ_ _ _ _ _ _=>usS λ_=>usS λ_=>usZ rfl
def O16:OkD tab prog 8 "lies_among" "lies_among" ["many","lies"] zeO:=zaj ["many","lies","place","thing"] rfl (by decide +kernel) λ_ _ _ _ _ _=>usS λ_=>usS λ_=>usZ rfl
def O39:OkD tab prog 9 "is_lie" "is_lie" ["thing","many"] zjl:=zaj ["thing","many"] rfl (by decide +kernel) λ_ _ _ _ _ _=>usS λ_=>usS λ_=>usZ rfl
def O32:OkD tab prog 10 "is_turn" "is_turn" ["thing"] zh6:=zaj ["thing"] rfl (by decide +kernel) λ_ _ _ _ _ _=>usS λ_=>usZ rfl
def O21:OkD tab prog 11 "rounds_of" "rounds_of" ["told","bound"] zfA:=zaj ["told","bound"] rfl (by decide +kernel) λ_ _ _ _ _ _=>usS λ_=>usS λ_=>usZ rfl
def O13:OkD tab prog 12 "_law_cell_at" "_law_cell_at" ["_law_script","_law_k"] zd4:=zaj ["_law_script","_law_k"] rfl (by decide +kernel) λ_ _ _ _ _ _=>usS λ_=>usS λ_=>usZ rfl
def O19:OkD tab prog 13 "_law_whole" "_law_whole" ["_law_found"] zfB:=zaj ["_law_found"] rfl (by decide +kernel) λ_ _ _ _ _ _=>usS λ_=>usZ rfl
def O29:OkD tab prog 14 "_law_path" "_law_path" ["_law_found"] zgC:=zaj ["_law_found"] rfl (by decide +kernel) λ_ _ _ _ _ _=>usS λ_=>usZ rfl
def O33:OkD tab prog 15 "_law_big" "_law_big" ["_law_cell"] zh4:=zaj ["_law_cell"] rfl (by decide +kernel) λ_ _ _ _ _ _=>usS λ_=>usZ rfl
def O18:OkD tab prog 16 "_law_mixed" "_law_mixed" ["_law_cell","_law_many"] zfC:=zaj ["_law_cell","_law_many","_law_found","_law_number","_law_k"] rfl (by decide +kernel) λ_ _ _ _ _ _=>usS λ_=>usS λ_=>usZ rfl
def O28:OkD tab prog 17 "_law_free" "_law_free" ["_law_number","_law_many","_law_words"] zgE:=zaj ["_law_number","_law_many","_law_words","_law_left","_law_path_here","_law_k","_law_to","_law_turn"] rfl (by decide +kernel) λ_ _ _ _ _ _=>usS λ_=>usS λ_=>usS λ_=>usZ rfl
def O34:OkD tab prog 18 "_law_lie" "_law_lie" ["_law_cell","_law_many","_law_sender","_law_told","_law_words"] zh2:=zaj ["_law_cell","_law_many","_law_sender","_law_told","_law_words","_law_xs","_law_path_here","_law_word","_law_base","_law_off","_law_turn"] rfl (by decide +kernel) λ_ _ _ _ _ _=>usS λ_=>usS λ_=>usS λ_=>usS λ_=>usS λ_=>usZ rfl
def O23:OkD tab prog 19 "_law_lies" "_law_lies" ["_law_cells","_law_many","_law_sender","_law_words"] zgD:=zaj ["_law_cells","_law_many","_law_sender","_law_words","_law_told","_law_cell"] rfl (by decide +kernel) λ_ _ _ _ _ _=>usS λ_=>usS λ_=>usS λ_=>usS λ_=>usZ rfl
def O22:OkD tab prog 20 "_law_some" "_law_some" ["_law_cell","_law_many"] zgA:=zaj ["_law_cell","_law_many","_law_found","_law_hand"] rfl (by decide +kernel) λ_ _ _ _ _ _=>usS λ_=>usS λ_=>usZ rfl
def O12:OkD tab prog 21 "_law_setting" "_law_setting" ["_law_script"] zd3:=zaj ["_law_script","_law_many","_law_liars","_law_sender","_law_words","_law_lies_here"] rfl (by decide +kernel) λ_ _ _ _ _ _=>usS λ_=>usZ rfl
def O17:OkD tab prog 22 "_law_rounds" "_law_rounds" ["_law_script","_law_bound"] zeP:=zaj ["_law_script","_law_bound","_law_cell"] rfl (by decide +kernel) λ_ _ _ _ _ _=>usS λ_=>usS λ_=>usZ rfl
def O31:OkD tab prog 23 "_law_due" "_law_due" ["_law_letters","_law_hand","_law_sender","_law_word"] zh3:=zaj ["_law_letters","_law_hand","_law_sender","_law_word","_law_due_here","_law_turn","_law_path_here","_law_to","_law_told","_law_good"] rfl (by decide +kernel) λ_ _ _ _ _ _=>usS λ_=>usS λ_=>usS λ_=>usS λ_=>usZ rfl
def O25:OkD tab prog 24 "_law_rows" "_law_rows" ["_law_found","_law_due_here"] zgB:=zaj ["_law_found","_law_due_here","_law_row"] rfl (by decide +kernel) λ_ _ _ _ _ _=>usS λ_=>usS λ_=>usZ rfl
def O40:OkD tab prog 25 "law" "law" ["_law_script"] zpP:=zaj ["_law_script","_law_many","_law_bound","_law_liars","_law_sender","_law_word","_law_lies_here","_law_rounds_here","_law_last","_law_play","_law_ends","_law_hand","_law_due_here","_law_found"] rfl (by decide +kernel) λ_ _ _ _ _ _=>usS λ_=>usZ rfl
def O20:OkD tab prog 26 "__init__" "Book.__init__" ["self"] zfD:=zaj ["self"] rfl (by decide +kernel) λ_ _ _ _ _ _=>usS λ_=>usZ rfl
def O8:OkD tab prog 27 "genuine" "Book.genuine" ["self","path","word"] zdy:=zaj ["self","path","word"] rfl (by decide +kernel) λ_ _ _ _ _ _=>usS λ_=>usS λ_=>usS λ_=>usZ rfl
def O24:OkD tab prog 28 "has" "Book.has" ["self","hand","path","word"] zgH:=zaj ["self","hand","path","word"] rfl (by decide +kernel) λ_ _ _ _ _ _=>usS λ_=>usS λ_=>usS λ_=>usS λ_=>usZ rfl
def O15:OkD tab prog 29 "stamp" "Book.stamp" ["self","hand","path","word"] zeQ:=zaj ["self","hand","path","word"] rfl (by decide +kernel) λ_ _ _ _ _ _=>usS λ_=>usS λ_=>usS λ_=>usS λ_=>usZ rfl
def O11:OkE tab prog 30 ["self","setting","sender","word","rounds"] zd7:=zmo (F:=zbu) ["self","setting","sender","word","rounds","first","turns","turn"] rfl (by decide +kernel)
def O5:OkD tab prog 31 "ending" "Signed.ending" ["self","hand"] zc7:=zaj ["self","hand","kept"] rfl (by decide +kernel) λ_ _ _ _ _ _=>usS λ_=>usS λ_=>usZ rfl
def O4:OkD tab prog 32 "endings" "Signed.endings" ["self"] zcR:=zaj ["self"] rfl (by decide +kernel) λ_ _ _ _ _ _=>usS λ_=>usZ rfl
def O14:OkD tab prog 33 "keep" "Signed.keep" ["self","hand","word","path"] zd6:=zaj ["self","hand","word","path","kept"] rfl (by decide +kernel) λ_ _ _ _ _ _=>usS λ_=>usS λ_=>usS λ_=>usS λ_=>usZ rfl
def O10:OkD tab prog 34 "kept" "Signed.kept" ["self","hand"] zd5:=zaj ["self","hand"] rfl (by decide +kernel) λ_ _ _ _ _ _=>usS λ_=>usS λ_=>usZ rfl
def O3:OkD tab prog 35 "letters" "Signed.letters" ["self"] zcQ:=zaj ["self"] rfl (by decide +kernel) λ_ _ _ _ _ _=>usS λ_=>usZ rfl
def O2:OkD tab prog 36 "play_round" "Signed.play_round" ["self","setting","turn"] zb8:=zaj ["self","setting","turn","written","path","to","word","good"] rfl (by decide +kernel) λ_ _ _ _ _ _=>usS λ_=>usS λ_=>usS λ_=>usZ rfl
def O1:OkD tab prog 37 "written_by_lies" "Signed.written_by_lies" ["self","setting","turn"] zbg:=zaj ["self","setting","turn","written","path","to","word","ahead","hand"] rfl (by decide +kernel) λ_ _ _ _ _ _=>usS λ_=>usS λ_=>usS λ_=>usZ rfl
def O0:OkD tab prog 38 "written_by_trues" "Signed.written_by_trues" ["self","setting","turn"] zbd:=zaj ["self","setting","turn","written","hand","word","path","longer"] rfl (by decide +kernel) λ_ _ _ _ _ _=>usS λ_=>usS λ_=>usS λ_=>usZ rfl
def O7:OkE tab prog 39 ["self","many","bound","liars","lies"] zdx:=zmo (F:=zbj) ["self","many","bound","liars","lies"] rfl (by decide +kernel)
def O6:OkD tab prog 40 "trues" "Setting.trues" ["self"] zc8:=zaj ["self"] rfl (by decide +kernel) λ_ _ _ _ _ _=>usS λ_=>usZ rfl
end
section
open R
def plen(S:R.St)(o:MO):(S.push o).len=S.len+1:=by simp[St.push,St.len];lia
def W_ex{α:Type}{o:Out α}{Q:α->R.St->Prop}(h:W o Q):∃a T,o=.ok a T/\Q a T:=W.iff.mp h
noncomputable abbrev pD(p:List Int):D:=.tup (p.map .int)
def zoH{P:List Fn}{F:Fn}{f n:Nat}{ds rs:List D}{S:R.St}(h:P[f]?=Φ F)(hl:ds.length=F.np)(w:W (exS (callF P n) F.body (zaR F ds) S.enter) λr T=>∃l,r=.rt (.ref l)/\S.len<=l/\T.get l=Φ (.lst rs)/\flats S.len rs=Δ)(hp:F.prim=Ψ:=by rfl) :
  app (callF P (n+1)) f ds S=.ok (.ref S.len) (S.push (.lst rs)):=by
 refine W.eq ?_;rw[zgm h hl hp,zab];refine w.mono λr T q=>?_;let⟨l,rfl,h1,h2,h3⟩:=q;have:=zfo (Q:=λa T'=>a=.ref S.len/\T'=S.push (.lst rs)) h1 h2 h3 ⟨rfl,rfl⟩;unfold wFin at this;exact this
def zax{cf:CF}{i:Nat}{e:CE}{r:CS}{δ:Ev}{S S':R.St}{d:D}{Q:Fl->R.St->Prop}(h:evE cf e δ S=.ok d S')(w:W (exS cf r (δ.set i (Φ d)) S') Q):W (exS cf (.asg i e r) δ S) Q:=by show W (Out.bind _ _) _;rw[h,zaz];exact w
def za4{cf:CF}{δ:Ev}{S:R.St}{Q:Fl->R.St->Prop}(h:Q (.nx δ) S):W (exS cf .nil δ S) Q:=by exact h
def zcE{cf:CF}{g:List Nat}{l:CL}{b r:CS}{δ:Ev}{S S1:R.St}{xs:List D}{ls:List Nat}{Q:Fl->R.St->Prop}(h:evL cf l δ S=.ok (xs,ls) S1)
  (w:W (zbx g (exS cf b) xs δ {S1 with lk:=ls++S1.lk}) λf T=>match f with|.nx δ'=>W (exS cf r δ' {T with lk:=S1.lk}) Q|.rt d=>Q (.rt d) {T with lk:=S1.lk}):W (exS cf (.forS g l b r) δ S) Q:=by
 show W (Out.bind _ _) _;rw[h,zaz];unfold zbe;dsimp only;rw[zab,zab];refine w.mono λf T hf=>?_;rw[W_ok];cases f with|nx δ'=>exact hf|rt d=>exact hf
def zca{n:Nat}{S:R.St}{ns:List Int}{k:Nat}:app (callF prog (n+1)) 12 [.fix (ns.map .int),.int k] S=.ok (.int (zbP ns k)) S:=by
 refine zaM (F:=zcJ) rfl rfl ?_;left;refine zbp (λc=>?_) (λc=>?_);have c:k<ns.length:=by simpa using c
 left;exists zcr (x:=D.int ns[k]) (by simp[c]);left;change by decide
 left;change by decide
 left;refine zag rfl ⟨?_,rfl⟩;unfold zbP;rw[Η c];rfl;have c:¬k<ns.length:=by simpa using c
 left;refine zag rfl ⟨?_,rfl⟩;unfold zbP;rw[ϝ (by lia)]
noncomputable abbrev Ly:=K3×Option Int
abbrev lD(l:Ly):D:=.tup [.int l.1.1,pD l.1.2.1,.int l.1.2.2,oD l.2]
def zoo(N:Nat)(p:List Int):flat N (pD p)=Δ:=by simp[zaJ]
def zop(N:Nat)(o:Option Int):flat N (oD o)=Δ:=by cases o<;>rfl
def zdQ(N:Nat)(l:Ly):flat N (lD l)=Δ:=by unfold lD;rw[zhE,zaJ];intro d hd;simp![mem_cons,not_mem_nil,or_false]at hd;rcases hd with rfl|rfl|rfl|rfl;rfl;exact zoo _ _;rfl;exact zop _ _
def zhD(N:Nat)(ls:List Ly):flats N (ls.map lD)=Δ:=by rw[zaJ];intro d hd;let⟨l,_,rfl⟩:=mem_map.mp hd;exact zdQ _ _
structure LyOk(m:Int)(x:Ly):Prop where
 t1:1<=x.1.1
 t2:x.1.1<=30
 p1:1<=x.1.2.1.length
 p7:x.1.2.1.length<=7
 pi:∀i∈x.1.2.1,0<=i/\i<m
 pn:x.1.2.1.Nodup
 hi:0<=x.1.2.2/\x.1.2.2<m
 hp:x.1.2.2∉x.1.2.1
 wd:∀i,x.2=Φ i->-10^60<i/\i<10^60
def zda{n:Nat}{S:R.St}{i:Int}:app (callF prog (n+1)) 0 [.int i] S=.ok (.bl Δ) S:=by refine zaM (F:=zez) rfl rfl ?_;left;exists(show tyOf S.enter (.int i)=Φ "int" from rfl);left;exists(show tyOf S.enter (.int i)=Φ "int" from rfl);left;exact zag rfl ⟨rfl,rfl⟩
def zja{n:Nat}{S:R.St}{i m:Int}(h:0<=i/\i<m):app (callF prog (n+2)) 1 [.int i,.int m] S=.ok (.bl Δ) S:=by refine zaM (F:=zgf) rfl rfl ?_;left;specialize zda (n:=n);left;refine zhP (by simpa using h.1) ?_;left;exact zag rfl ⟨by simp[h.2],rfl⟩
def zmj{n:Nat}{S:R.St}{i:Int}(h:-10^60<i/\i<10^60):app (callF prog (n+2)) 2 [.int i] S=.ok (.bl Δ) S:=by
 refine zaM (F:=zgc) rfl rfl ?_;left;specialize zda (n:=n);left;right;left;refine zag rfl ⟨?_,rfl⟩;have:(if i<0 then -i else i)<(10:Int)^60:=by have h1:=h.1;have h2:=h.2;split<;>omega
 rw[show Int.toNat 60=60 from rfl,decide_eq_true this]
def zgt{n:Nat}{S:R.St}{i lo hi:Int}(h1:lo<=i)(h2:i<=hi):app (callF prog (n+2)) 3 [.int i,.int lo,.int hi] S=.ok (.int i) S:=by refine zaM (F:=zeA) rfl rfl ?_;left;specialize zda (n:=n);left;refine zhP (by simpa using h1) ?_;left;refine ziL (by simpa using h2) ?_;left;exact zag rfl ⟨rfl,rfl⟩
def zeL{n:Nat}{S:R.St}{i m:Int}(h:0<=i/\i<m):app (callF prog (n+3)) 4 [.int i,.int m] S=.ok (.int i) S:=by refine zaM (F:=zgg) rfl rfl ?_;left;specialize zja (n:=n) h;left;exact zag rfl ⟨rfl,rfl⟩
def zlV{ns:List Int}(h:ns.Nodup):dedup ns=ns:=by
 unfold dedup;suffices ∀(l acc:List Int),(acc++l).Nodup->l.foldl (λacc x=>if acc.contains x then acc else acc++[x]) acc=acc++l from this ns [] h
 intro l;induction l with
 |nil=>intro acc _;simp| cons x l ih=>
  intro acc h;rw[List.foldl_cons];have hx:acc.contains x=Θ:=by have:=(nodup_append.mp h).2.2;simp![List.contains_eq_mem,decide_eq_false_iff_not];exact λhm=>this x hm x Υ rfl
  rw[hx];simp![Κ,if_false];rw[ih (acc++[x]) (by simpa using h)];simp
def zfk(is:List Int)(f:D->D)(hf:∀i,f (.int i)=.bl Δ):allD ((is.map D.int).map f)=Φ Δ:=by
 unfold allD;have:((is.map D.int).map f).mapM zeC=Φ (is.map λ_=>Δ):=by induction is with|nil=>rfl| cons q qs ih=>rw[ϊ,ϊ,mapM_cons,hf q,ih];rfl
 rw[this];simp
def zpC{n:Nat}{S:R.St}{p:List Int}{m:Int}(p1:1<=p.length)(p7:p.length<=7)(pi:∀i∈p,0<=i/\i<m)(pn:p.Nodup):app (callF prog (n+3)) 6 [pD p,.int m] S=.ok (.bl Δ) S:=by
 refine zaM (F:=zge) rfl rfl ?_;left;exists(show tyOf S.enter (pD p)=Φ "tuple" from rfl);left;refine zhP (by simp;lia) ?_;left;refine ziL (by simp;lia) ?_;left;refine zal ?_;refine W.of (zbW (λd=>.bl Δ) (p.map D.int) Ψ (λz hz=>rfl) (λz hz=>?_)) ?_;let⟨q,hq,rfl⟩:=mem_map.mp hz;refine W.eq (wE_W _ ?_);left;specialize zja (n:=n) (pi q hq);left;exact⟨rfl,rfl⟩;left;change by simp;lia
 left;exists zfk p _ (λ_=>rfl);left;exists zba p;left;change by lia
 left;refine zag rfl ⟨?_,rfl⟩;rw[zlV pn];simp
def zpz{n:Nat}{S:R.St}{t:Int}(h1:1<=t)(h2:t<=30):app (callF prog (n+2)) 10 [.int t] S=.ok (.bl Δ) S:=by refine zaM (F:=zgd) rfl rfl ?_;left;specialize zda (n:=n);left;refine zhP (by simpa using h1) ?_;left;exact zag rfl ⟨by simp[h2],rfl⟩
def zkg(S:R.St)(x:Int)(ks:List Int):cmpO S .In (.int x) (.tup (ks.map .int))=Φ (decide (x∈ks)):=zhx S x ks
def zrB{n:Nat}{S:R.St}{x:Ly}{m:Int}(h:LyOk m x):app (callF prog (n+4)) 9 [lD x,.int m] S=.ok (.bl Δ) S:=by let⟨⟨t,p,q⟩,w⟩:=x;let⟨h1,h2,h3,h4,h5,h6,h7,h8,h9⟩:=h;dsimp only at h1 h2 h3 h4 h5 h6 h7 h8 h9;refine zaM (F:=zhL) rfl rfl ?_;left;exists(show tyOf S.enter (lD ((t,p,q),w))=Φ "tuple" from rfl);left;unfold lD;dsimp only;left;exists atI_0;left;specialize zpz (n:=n+1) h1 h2;left;exists atI_1;left;specialize zpC (n:=n) h3 h4 h5 h6;left;exists(show atI [.int t,pD p,.int q,oD w] 2=Φ (.int q) from rfl);left;specialize zja (n:=n+1) h7;left;exists(show atI [.int t,pD p,.int q,oD w] 2=Φ (.int q) from rfl);left;exists atI_1;left;exists zkg _ q p;left;refine ziL (by simpa using h8) ?_;left;exists(show atI [.int t,pD p,.int q,oD w] 3=Φ (oD w) from rfl);left;cases w with| none=>left;exact zag rfl ⟨rfl,rfl⟩| some i=>left;exists(show atI [.int t,pD p,.int q,oD (Φ i)] 3=Φ (oD (Φ i)) from rfl);left;specialize zmj (n:=n+1) (h9 i rfl);left;exact zag rfl ⟨rfl,rfl⟩
def zn2{S:R.St}{l:Nat}{ks:List Int}(h:S.get l=Φ (.lst (ks.map .int))):lstI S (.ref l)=Φ ks:=by unfold lstI;dsimp only;rw[h];exact zba ks
abbrev liZ(hs:List Int):List Int:=zeJ (dedup hs)
def zlU(ns:List Int):(dedup ns).length<=ns.length:=by
 unfold dedup;suffices ∀(l acc:List Int),(l.foldl (λacc x=>if acc.contains x then acc else acc++[x]) acc).length<=acc.length+l.length from by simpa using this ns []
 intro l;induction l with|nil=>intro acc;simp| cons x l ih=>intro acc;rw[List.foldl_cons];refine le_trans (ih _) ?_;split<;>simp<;>lia
def zn5(hs:List Int):(liZ hs).length<=hs.length:=by unfold liZ;rw[(zbX _).length_eq];exact zlU hs
def znq{n l:Nat}{S:R.St}{m:Int}{hs:List Int}(h:S.get l=Φ (.lst (hs.map .int)))(hi:∀i∈hs,0<=i/\i<m)(hl:hs.length<=60):app (callF prog (n+4)) 7 [.int m,.ref l] S=.ok (pD (liZ hs)) S:=by
 refine zaM (F:=zcH) rfl rfl ?_;left;refine zbq h ?_;left;refine zal ?_;refine W.of (zbW (λd=>d) (hs.map D.int) Ψ (λz hz=>rfl) (λz hz=>?_)) ?_;let⟨q,hq,rfl⟩:=mem_map.mp hz;refine W.eq (wE_W _ ?_);left;specialize zeL (n:=n) (hi q hq);left;exact⟨rfl,rfl⟩;rw[List.map_id'];left;change by simp;lia
 left;change by simp;lia
 left;exists zn2 (zlP _ _ _);left;change by lia
 left;have:=zn5 hs;unfold liZ at this;change by simp;lia
 left;refine zay rfl ?_;left;change by simp;lia
 left;exact zag (by simp) ⟨rfl,rfl⟩
def zou{S:R.St}{l:Nat}{xs:List D}(h:S.get l=Φ (.lst xs)):zdS S (.ref l)=Φ (xs.mapIdx λi d=>zcA (.int i) d,[l]):=by unfold zdS;dsimp only;rw[h]
def zpD{n l:Nat}{S:R.St}{m:Int}{Ls:List Ly}(h:S.get l=Φ (.lst (Ls.map lD)))(hi:∀x∈Ls,LyOk m x)(hl:Ls.length<=1000):app (callF prog (n+5)) 8 [.int m,.ref l] S=.ok (.tup (Ls.map lD)) S:=by
 refine zaM (F:=zc2) rfl rfl ?_;left;exists zou (zdO h _ _);left;refine zal ?_;refine W.mono (zan (λi δ T=>(∃u v:Option D,δ=[Φ (.int m),Φ (.ref l),u,v])/\T=⟨S.frz++S.new,[],[l]⟩) (λ_ _=>False) _ 0 _ _ ⟨⟨Ψ,Ψ,rfl⟩,rfl⟩ ?_) ?_;rintro i z δ T hz ⟨⟨u,v,rfl⟩,rfl⟩;rw[List.getElem?_mapIdx,getElem?_map]at hz;cases e:Ls[i]? with
 |none=>rw[e]at hz;exact nS hz
 |some x=>rw[e]at hz;cases hz;refine⟨[Φ (.int m),Φ (.ref l),Φ (.int i),Φ (lD x)],rfl,?_⟩;refine wS_W _ ?_;left;specialize(zrB (n:=n) (hi x (mem_of_getElem? e)));left;exact⟨⟨_,_,rfl⟩,rfl⟩
 rintro f T h';cases f with
 |rt d=>exact h'.elim| nx δ=>
  let⟨⟨u,v,rfl⟩,rfl⟩:=h';left;refine zbq h ?_;left;change by simp;lia
  left;refine zag ?_ ⟨rfl,rfl⟩;rw[zhE,zaJ];intro d hd;let⟨x,_,rfl⟩:=mem_map.mp hd;exact zdQ _ x
section
variable{S:R.St}{a:Nat}
def zar{c:Nat}{fs:List (PySem.Str×D)}(e:S.get a=Φ (.ins c fs)):zeb S (.ref a)=Φ (c,fs):=by unfold zeb;dsimp only;rw[e]
def zaF{c:Nat}{fs:List (PySem.Str×D)}{f:PySem.Str}{v:D}(e:S.get a=Φ (.ins c fs))(g:fs.lookup f=Φ v):((zeb S (.ref a)).bind λp=>p.2.lookup f)=Φ v:=by rw[zar e];exact g
end
def zcM{P:List Fn}{F:Fn}{f n:Nat}{ds:List D}{S:R.St}{Q:D->R.St->Prop}(h:P[f]?=Φ F)(hl:ds.length=F.np)(w:W (exS (callF P n) F.body (zaR F ds) S) λr T=>match r with|.nx _=>Q .non T|.rt d=>Q d T)(hp:F.prim=Ψ:=by rfl):W (appW (callF P (n+1)) f ds S) Q:=by unfold appW;simp![callF,h,hl,hp,if_true,zab];refine w.mono λr T q=>?_;cases r<;>exact q
def zcs{P:List Fn}{F:Fn}{f n:Nat}{ds:List D}{S S':R.St}{d:D}(h:P[f]?=Φ F)(hl:ds.length=F.np)(w:wS (callF P n) F.body (zaR F ds) S λr T=>match r with|.nx _=>D.non=d/\T=S'|.rt z=>z=d/\T=S')(hp:F.prim=Ψ:=by rfl):appW (callF P (n+1)) f ds S=.ok d S':=by refine W.eq (zcM h hl ((wS_W _ w).mono λr T q=>?_) hp);cases r<;>exact q
abbrev rg(m:Int):List Int:=(List.range m.toNat).map λ(k:Nat)=>(k:Int)
def zbb(p:Int->Bool)(f:Int->D)(q:D->Bool)(g:D->D)(h1:∀o,q (.int o)=p o)(h2:∀o,g (.int o)=f o):∀xs:List Int,((xs.map D.int).filter q).map g=(xs.filter p).map f
 | []=>rfl| x::xs=>by rw[ϊ,List.filter_cons,List.filter_cons,h1];cases p x with|true=>simp![if_true,ϊ,h2];rw[zbb p f q g h1 h2 xs]|false=>simpa using zbb p f q g h1 h2 xs
structure Mv(A:List Nat)(S T:R.St):Prop where
 frz:T.frz=S.frz
 lk:T.lk=S.lk
 len:S.len<=T.len
 old:∀m o,m∉A->S.get m=Φ o->T.get m=Φ o
def Mv.refl(A:List Nat)(S:R.St):Mv A S S:=⟨rfl,rfl,le_refl _,λ_ _ _ h=>h⟩
def Mv.trans{A:List Nat}{S T U:R.St}(a:Mv A S T)(b:Mv A T U):Mv A S U:=⟨b.frz.trans a.frz,b.lk.trans a.lk,le_trans a.len b.len,λm o h e=>b.old m o h (a.old m o h e)⟩
def Mv.push(A:List Nat)(S:R.St)(o:MO):Mv A S (S.push o):=⟨rfl,rfl,by rw[plen];lia,λ_ _ _ e=>zah e⟩
def Mv.up{A B:List Nat}{S T:R.St}(h:Mv A S T)(s:∀m,m∈A->m∈B):Mv B S T:=⟨h.frz,h.lk,h.len,λm o hm e=>h.old m o (λz=>hm (s m z)) e⟩
def get_lt{S:R.St}(h:S.get l=Φ o):l<S.len:=by unfold St.get at h;unfold St.len;split at h;lia;have:=(Ζ.mp h).1;lia
structure Fr(S:R.St)(a:Nat):Prop where
 f:S.frz.length<=a
 k:S.lk.contains a=Θ
def Fr.mv{A:List Nat}{S T:R.St}{a:Nat}(h:Fr S a)(v:Mv A S T):Fr T a:=⟨by rw[v.frz];exact h.f,by rw[v.lk];exact h.k⟩
def zb9{S:R.St}{a c:Nat}{fs gs:List (PySem.Str×D)}{f:PySem.Str}{v:D}(e:S.get a=Φ (.ins c fs))(hf:Fr S a)(hl:fs.length<1000)(hg:zjm f v fs=gs):∃T,zbF S (.ref a) f v=Φ T/\Mv [a] S T/\T.get a=Φ (.ins c gs):=by let⟨T,h1,h2,h3,h4,h5,h6⟩:=zeR (S:=S) (l:=a) (.ins c gs) hf.f hf.k;refine⟨T,?_,⟨h2,h3,by lia,λm o hm e=>by rw[h5 m (by simpa using hm)];exact e⟩,h6 (get_lt e)⟩;unfold zbF;dsimp only;rw[e];dsimp only;rw[if_pos hl,hg,h1]
def zlD{T:R.St}{N:Nat}(hk:∀l∈T.lk,l<N)(hN:N<=T.len):T.lk.contains T.len=Θ:=by rw[Bool.eq_false_iff];intro z;have:=hk _ (List.contains_iff_mem.mp z);lia
def ze5{T:R.St}{l:List Nat}(h:T.lk=l):({T with lk:=l}:R.St)=T:=by subst h;rfl
def zdz{T:R.St}{l:Nat}{o u:MO}(hf:Fr T l)(e:T.get l=Φ o):∃U,T.put l u=Φ U/\Mv [l] T U/\U.get l=Φ u:=by let⟨U,h1,h2,h3,h4,h5,h6⟩:=zeR (S:=T) (l:=l) u hf.f hf.k;exact⟨U,h1,⟨h2,h3,by lia,λm x hm e=>by rw[h5 m (by simpa using hm)];exact e⟩,h6 (get_lt e)⟩
def zfj{P:List Fn}{F:Fn}{f n:Nat}{ds:List D}{S:R.St}{B:List D->Prop}(h:P[f]?=Φ F)(hl:ds.length=F.np)(w:wS (callF P n) F.body (zaR F ds) S.enter λr T=>∃l rs,r=.rt (.ref l)/\S.len<=l/\T.get l=Φ (.lst rs)/\flats S.len rs=Δ/\B rs)(hp:F.prim=Ψ:=by rfl) :
  ∃rs,B rs/\app (callF P (n+1)) f ds S=.ok (.ref S.len) (S.push (.lst rs)):=by
 have:W (app (callF P (n+1)) f ds S) λa T'=>∃rs,B rs/\a=.ref S.len/\T'=S.push (.lst rs):=by rw[zgm h hl hp,zab];refine(wS_W _ w).mono λr T q=>?_;let⟨l,rs,rfl,h1,h2,h3,h4⟩:=q;have:=zfo (Q:=λa T'=>∃rs,B rs/\a=.ref S.len/\T'=S.push (.lst rs)) h1 h2 h3 ⟨rs,h4,rfl,rfl⟩;unfold wFin at this;exact this
 let⟨a,T,e,rs,b,rfl,rfl⟩:=W_ex this;exact⟨rs,b,e⟩
def zkM{P:List Fn}{F:Fn}{f n:Nat}{ds:List D}{S:R.St}{B:D->Prop}(h:P[f]?=Φ F)(hl:ds.length=F.np)(w:wS (callF P n) F.body (zaR F ds) S.enter λr T=>∃d,r=.rt d/\flat S.len d=Δ/\B d)(hp:F.prim=Ψ:=by rfl) :
  ∃d,B d/\app (callF P (n+1)) f ds S=.ok d S:=by
 have:W (app (callF P (n+1)) f ds S) λa T'=>B a/\T'=S:=by rw[zgm h hl hp,zab];refine(wS_W _ w).mono λr T q=>?_;let⟨d,rfl,h3,h4⟩:=q;have:=zag (T:=T) (Q:=λa T'=>B a/\T'=S) h3 ⟨h4,rfl⟩;unfold wFin at this;exact this
 let⟨a,T,e,b,rfl⟩:=W_ex this;exact⟨a,b,e⟩
abbrev bigZ(c:Int):Int:=c%(2*10^60-1)-(10^60-1)
def zmI(c:Int):-10^60<bigZ c/\bigZ c<10^60:=by unfold bigZ;have h1:=emod_nonneg c (show(2*10^60-1:Int)≠0 by decide);have h2:=Int.emod_lt_of_pos c (show(0:Int)<2*10^60-1 by decide);lia
def zpG{n:Nat}{S:R.St}{c:Int}:app (callF prog (n+1)) 15 [.int c] S=.ok (.int (bigZ c)) S:=by refine zaM (F:=zgb) rfl rfl ?_;left;right;left;right;left;right;left;right;left;refine zag rfl ⟨rfl,rfl⟩
def zjc{m i:Nat}{z:D}(hz:(List.map (λ(k:Nat)=>D.int k) (List.range (m:Int).toNat))[i]?=Φ z):i<m/\z=.int i:=by rw[getElem?_map]at hz;rw[Int.toNat_natCast]at hz;by_cases h:i<m;rw[List.getElem?_range h]at hz;exact⟨h,by cases hz;rfl⟩;rw[ϝ (by simpa using h)]at hz;exact nS hz
def zpA{n:Nat}{S:R.St}{c:Int}{m:Nat}(m7:m<=7):∃rs,(∃hs:List Int,rs=hs.map .int/\hs.length<=m/\∀i∈hs,0<=i/\i<m)/\app (callF prog (n+1)) 20 [.int c,.int m] S=.ok (.ref S.len) (S.push (.lst rs)):=by
 refine zfj (F:=zeu) rfl rfl ?_;left;right;left;change by simp;lia
 left;refine zal ?_;refine W.mono (zan (λi δ T=>(∃(x:Int) (u:Option D),δ=[Φ (.int x),Φ (.int m),Φ (.ref ((S.frz++S.new).length+0)),u])/\(∃hs:List Int,hs.length<=i/\(∀j∈hs,0<=j/\j<m)/\T=⟨S.frz++S.new,[.lst (hs.map .int)],[]⟩)) (λ_ _=>False) _ 0 _ _ ⟨⟨c,Ψ,rfl⟩,[],by simp,by simp,rfl⟩ ?_) ?_;rintro i z δ T hz ⟨⟨x,u,rfl⟩,hs,h1,h2,rfl⟩;let⟨hi,rfl⟩:=zjc hz;refine⟨_,rfl,wS_W _ ?_⟩;left;right;left;refine zbp (λc=>?_) (λc=>?_)
 . left
   repeat (first|(right;conv=>whnf)|(refine zay rfl ?_;conv=>whnf)|(refine zbV rfl ?_;conv=>whnf)|(refine zbq (by assumption) ?_;conv=>whnf))
   refine⟨⟨_,_,rfl⟩,hs++[(i:Int)],by simp;lia,?_,by simp⟩;intro j hj;rcases mem_append.mp hj with h|h;exact h2 j h;simp![mem_singleton]at h;subst h;lia
 left;right;left;exact⟨⟨_,_,rfl⟩,hs,by lia,h2,rfl⟩;rintro f T h';cases f with|rt d=>exact h'.elim| nx δ=>let⟨⟨x,u,rfl⟩,hs,h1,h2,rfl⟩:=h';left;refine⟨_,_,rfl,?_,zbL _ _ _ 0,?_,hs,rfl,?_,h2⟩;simp[St.len];simp[zaJ];simpa using h1
def znp{n:Nat}{S:R.St}{c:Int}:∃rs,(∃xs:List Int,rs=xs.map .int/\xs.length=6)/\app (callF prog (n+1)) 16 [.int c,.int 6] S=.ok (.ref S.len) (S.push (.lst rs)):=by
 refine zfj (F:=zdZ) rfl rfl ?_;left;right;left;right;left;right;left;refine zal ?_;refine W.mono (zan (λi δ T=>(∃(x:Int) (u:Option D),δ=[Φ (.int c),Φ (.int 6),Φ (.ref ((S.frz++S.new).length+0)),Φ (.int x),u])/\(∃hs:List Int,hs.length=i/\T=⟨S.frz++S.new,[.lst (hs.map .int)],[]⟩)) (λ_ _=>False) _ 0 _ _ ⟨⟨_,Ψ,rfl⟩,[],by simp,rfl⟩ ?_) ?_
 . rintro i z δ T hz ⟨⟨x,u,rfl⟩,hs,h1,rfl⟩;let⟨hi,rfl⟩:=zjc (m:=6) hz;refine⟨_,rfl,wS_W _ ?_⟩;left;have:hs.length<6:=by lia
   left;change by unfold zjD;simp
   left;right;left;change by unfold zjD;rw[Ϯ,decide_eq_true_eq];left;lia
   left
   repeat (first|(right;conv=>whnf)|(refine zay rfl ?_;conv=>whnf)|(refine zbV rfl ?_;conv=>whnf)|(refine zbq (by assumption) ?_;conv=>whnf))
   exact⟨⟨_,_,rfl⟩,hs++[_],by simp;lia,by simp;rfl⟩
 rintro f T h';cases f with|rt d=>exact h'.elim| nx δ=>let⟨⟨x,u,rfl⟩,hs,h1,rfl⟩:=h';left;refine⟨_,_,rfl,?_,zbL _ _ _ 0,?_,hs,rfl,?_⟩;simp[St.len];simp[zaJ];simpa using h1
def zdD{α:Type}(l:List α)(x:Int)(h:0<l.length):∃k,∃hk:k<l.length,x%(l.length:Int)=(k:Int):=by have h1:=emod_nonneg x (show(l.length:Int)≠0 by lia);have h2:=Int.emod_lt_of_pos x (show(0:Int)<l.length by lia);exact⟨(x%(l.length:Int)).toNat,by lia,by lia⟩
abbrev Hs(m:Int)(p:List Int):Prop:=p.Nodup/\∀i∈p,0<=i/\i<m
def Hs.perm{m:Int}{p q:List Int}(h:Hs m p)(e:q.Perm p):Hs m q:=⟨e.nodup_iff.mpr h.1,λi hi=>h.2 i (e.mem_iff.mp hi)⟩
def Hs.left{m:Int}{p q:List Int}(h:Hs m (p++q)):Hs m p:=⟨(nodup_append.mp h.1).1,λi hi=>h.2 i (mem_append_left _ hi)⟩
def Hs.len{m:Nat}{p:List Int}(h:Hs m p):p.length<=m:=by
 have:(p.map Int.toNat).Nodup:=by rw[List.nodup_iff_pairwise_ne,pairwise_map];have:=List.nodup_iff_pairwise_ne.mp h.1;refine Pairwise.imp_of_mem ?_ this;intro a b ha hb ne e;have:=h.2 a ha;have:=h.2 b hb;lia
 have hs:(p.map Int.toNat) ⊆ List.range m:=by intro x hx;let⟨i,hi,rfl⟩:=mem_map.mp hx;have:=h.2 i hi;rw[mem_range];lia
 have:=List.Nodup.length_le_of_subset this hs;simpa using this
def zhz(m:Nat):Hs m ((List.range m).map λ(k:Nat)=>(k:Int)):=by refine⟨?_,?_⟩;rw[List.nodup_iff_pairwise_ne,pairwise_map];exact(List.nodup_iff_pairwise_ne.mp List.nodup_range).imp λ{a b} h e=>h (by lia);intro i hi;let⟨k,hk,rfl⟩:=mem_map.mp hi;have:=mem_range.mp hk;lia
noncomputable abbrev Wd(ws:List Int):Prop:=ws.length=4/\∀i∈ws,-10^60<i/\i<10^60
def erase_perm:∀(l:List Int)(k:Nat)(hk:k<l.length),(l[k]::l.eraseIdx k).Perm l
 |x::l,0,_=>List.Perm.refl _| x::l,k+1,hk=>by
  have hk:k<l.length:=by simpa using hk
  exact(List.Perm.swap x l[k] (l.eraseIdx k)).trans ((erase_perm l k hk).cons x)
def zf3(f:Int->D):∀(l:List Int)(k:Nat),(l.eraseIdx k).map f=(l.map f).eraseIdx k
 | [],k=>by simp|x::l,0=>rfl|x::l,k+1=>by simp[zf3 f l k]
def two_at(a b x:Int)(P:Int->Prop)(ha:P a)(hb:P b):∃t,P t/\atI [D.int a,D.int b] (x%2)=Φ (.int t):=by rcases(show x%2=0\/x%2=1 by lia) with h|h;exact⟨a,ha,by rw[h];rfl⟩;exact⟨b,hb,by rw[h];rfl⟩
def zmQ(ws:List Int)(x:Int)(wd:Wd ws):∃w:Option Int,(∀i,w=Φ i->-10^60<i/\i<10^60)/\atI (ws.map .int++[.non]) (x%5)=Φ (oD w):=by
 have h1:=emod_nonneg x (show(5:Int)≠0 by decide);have h2:=Int.emod_lt_of_pos x (show(0:Int)<5 by decide);by_cases h:x%5<4;obtain⟨k,e⟩:∃k:Nat,x%5=k:=⟨(x%5).toNat,by lia⟩;have hk:k<ws.length:=by rw[wd.1];lia
 refine⟨Φ ws[k],λi e=>by cases e;exact wd.2 _ (Ϙ hk),?_⟩;rw[e];exact zcr (by rw[getElem?_append_left (by simpa using hk),getElem?_map,Η hk];rfl);refine⟨Ψ,(λi e=>by exact nS e),?_⟩;have:x%5=((4:Nat):Int):=by lia
 rw[this];exact zcr (by rw[getElem?_append_right (by simp[wd.1]),length_map,wd.1];rfl)
def zpF{n wl:Nat}{S:R.St}{c:Int}{m:Nat}{ws:List Int}(m2:2<=m)(m7:m<=7)(hw:S.get wl=Φ (.lst (ws.map .int)))(wd:Wd ws):∃d,(∃x,d=lD x/\LyOk m x)/\app (callF prog (n+1)) 17 [.int c,.int m,.ref wl] S=.ok d S:=by
 refine zkM (F:=zey) rfl rfl ?_;left;change by simp;lia
 left;change by simp;lia
 left;right;left;right;left;change by lia
 left;have r1:=emod_nonneg (c%7) (show((m:Int)-1)≠0 by lia);have r2:=Int.emod_lt_of_pos (c%7) (show(0:Int)<(m:Int)-1 by lia);generalize hr:c%7%((m:Int)-1)=r at r1 r2;change by lia
 left;refine zal ?_;refine W.mono (zan (λi δ T=>∃(x:Int) (p l:List Int) (u:Option D),δ=[Φ (.int x),Φ (.int m),Φ (.ref wl),Φ (.ref ((S.frz++S.new).length+0)),Φ (pD p),u,Ψ,Ψ]/\p.length=i/\l.length+i=m/\Hs m (p++l)/\T=⟨S.frz++S.new,[.lst (l.map .int)],[]⟩) (λ_ _=>False) _ 0 _ _ ⟨c,[],(List.range m).map λ(k:Nat)=>(k:Int),Ψ,rfl,rfl,by simp,zhz m,by rw[map_map];rfl⟩ ?_) ?_;rintro i z δ T hz ⟨x,p,l,u,rfl,h1,h2,h3,rfl⟩;have hz':i<(1+r).toNat:=by have:=(Ζ.mp hz).1;simpa using this
 rw[zero_add]at h1 h2;refine⟨_,rfl,wS_W _ ?_⟩;let⟨k,hk,e⟩:=zdD l (x/7%7) (by lia);left;right;left;refine zay rfl ?_;left;right;left;refine zay rfl ?_;left;change by simp;lia
 left;refine zay rfl ?_;left;rw[length_map,e,Int.toNat_natCast];change by lia
 left;exists(by rw[getElem?_map,Η hk];rfl);left;change by rw[List.length_eraseIdx];split<;>simp<;>lia
 left;refine zbV rfl ?_;left;right;left;change by rw[length_map];simp;lia
 left;have pr:(p++[l[k]]++l.eraseIdx k).Perm (p++l):=by rw[append_assoc];exact(erase_perm l k hk).append_left p
 refine⟨_,p++[l[k]],l.eraseIdx k,_,by rw[show D.tup (p.map D.int++[D.int l[k]])=pD (p++[l[k]]) by simp];rfl,by simp;lia,?_,h3.perm pr,?_⟩;rw[List.length_eraseIdx,if_pos hk];lia;rw[zf3];rfl;rintro f T h';cases f with
 |rt d=>exact h'.elim| nx δ=>
  let⟨x,p,l,u,rfl,h1,h2,h3,rfl⟩:=h';rw[length_map,length_range,zero_add]at h1 h2;let⟨k,hk,e⟩:=zdD l (x/7%7) (by lia);left;right;left;right;left;refine zay rfl ?_;left;change by simp;lia
  left;refine zay rfl ?_;left;rw[length_map,e];exists zcr (by rw[getElem?_map,Η hk];rfl);left;right;left;right;left;right;left;right;left;right;left;exists zae _ _;left;let⟨t,⟨t1,t2⟩,et⟩:=two_at p.length (1+x/7/7/2%30) (x/7/7) (λt=>1<=t/\t<=30) (by lia) (by lia);rw[length_map];exists et;left;right;left;refine zbq hw ?_;left;exists zae _ _;left;change by simp[wd.1]
  left;right;left;right;left;exists zae _ _;left;let⟨w,w1,ew⟩:=zmQ ws (x/7/7/60) wd;exists ew;left;right;left;have nd:=nodup_append.mp h3.1;refine⟨_,rfl,?_,((t,p,l[k]),w),rfl,⟨t1,t2,?_,?_,h3.left.2,h3.left.1,h3.2 _ (mem_append_right _ (Ϙ hk)),?_,w1⟩⟩;exact zdQ _ ((t,p,l[k]),w);dsimp only;lia;dsimp only;lia;exact λhm=>nd.2.2 _ hm _ (Ϙ hk) rfl
abbrev offL(m:Int)(p:List Int):List Int:=(rg m).filter λo=>!decide (o∈p)
def zpK(m:Nat):Hs m (rg m):=by unfold rg;rw[Int.toNat_natCast];exact zhz m
def zdB(m:Nat)(p:List Int):(offL m p).length<=m:=by unfold offL;refine le_trans (List.length_filter_le _ _) ?_;unfold rg;simp
def zeY{m:Nat}{p:List Int}{o:Int}(h:o∈offL m p):(0<=o/\o<m)/\o∉p:=by unfold offL at h;rw[mem_filter]at h;exact⟨(zpK m).2 o h.1,by simpa using h.2⟩
def zjA{m:Nat}{p:List Int}(h:Hs m p)(hl:p.length<m):0<(offL m p).length:=by
 by_cases c:0<(offL m p).length;exact c;exfalso;have e:offL m p=[]:=List.eq_nil_of_length_eq_zero (by lia);have hs:rg m ⊆ p:=by
  intro o ho;by_cases q:o∈p;exact q;have:o∈offL m p:=by unfold offL;rw[mem_filter];exact⟨ho,by simpa using q⟩
  rw[e]at this;cases this
 have:=List.Nodup.length_le_of_subset (zpK m).1 hs;unfold rg at this;simp at this;lia
def zdC(S:R.St)(x:Int)(ks:List Int):cmpO S .NotIn (.int x) (.tup (ks.map .int))=Φ (!decide (x∈ks)):=by have:=zkg S x ks;unfold cmpO at this⊢;dsimp only at this⊢;rw[this];rfl
def zq3{cf:CF}{T:R.St}{m:Int}{p:List Int}{u0 u2 u3 u4 u5 u7 u8 u9 u10:Option D}(m0:0<=m)(m7:m<=7) :
  evE cf (.mkL (.comp 1 [6] [0] (.rng1 J1) (.cmp .NotIn J0 J1) J0)) [u0,Φ (.int m),u2,u3,u4,u5,Φ (pD p),u7,u8,u9,u10] T=.ok (.ref T.len) (T.push (.lst ((offL m p).map .int))):=by
 refine W.eq (wE_W _ ?_);left;change by lia
 left;refine zal ?_;refine W.of (za9 (λd=>match d with|.int o=>!decide (o∈p)|_=>Θ) (λd=>d) _ Ψ (λz hz=>?_) (λz hz _=>?_)) ?_;let⟨o,_,rfl⟩:=mem_map.mp hz;refine W.eq (wT_W _ ?_);left;exists zdC T (o:Int) p;left;exact⟨rfl,rfl⟩;rfl;have hx:((List.range m.toNat).map λ(k:Nat)=>D.int (k:Int))=(rg m).map .int:=by unfold rg;rw[map_map];rfl
 rw[hx,zbb (λo=>!decide (o∈p)) .int _ _ (λo=>rfl) (λo=>rfl)];have hl:(offL m p).length<=7:=by have:=zdB m.toNat p;rw[Int.toNat_of_nonneg m0]at this;lia
 unfold offL at hl⊢;change by rw[length_map];lia
 left;change by rw[length_map];lia
 left;exact⟨rfl,rfl⟩
abbrev CS.rest:CS->CS
 |.asg _ _ r=>r|.ifS _ _ _ r=>r|.asgT _ _ r=>r|.forS _ _ _ r=>r|.expr _ r=>r|s=>s
structure Pth(m:Nat)(p:List Int):Prop where
 h:Hs m p
 l:1<=p.length
 g:p.length<m
noncomputable abbrev wOk(w:Option Int):Prop:=∀i,w=Φ i->-10^60<i/\i<10^60
def zfi{l:List Int}{k:Nat}(hk:k<l.length):atI (l.map D.int) (k:Int)=Φ (.int l[k]):=zcr (by rw[getElem?_map,Η hk];rfl)
abbrev lieT(k:Nat):CS:=Nat.repeat CS.rest k c_law_lie.body
def zqH{cf:CF}{T:R.St}{ax N m:Nat}{M:Int}(hM:M=m){p:List Int}{w:Option Int}{t x0 x1 x2 x3 x4 x5:Int}{u0 u2 u3 u4 u8 u9:Option D}(hx:T.get ax=Φ (.lst [.int x0,.int x1,.int x2,.int x3,.int x4,.int x5]))(m7:m<=7)(h:Pth m p)(ho:wOk w)(t1:1<=t)(t2:t<=30) :
  W (exS cf (lieT 10) [u0,Φ (.int M),u2,u3,u4,Φ (.ref ax),Φ (pD p),Φ (oD w),u8,u9,Φ (.int t)] T) λr T=>∃d,r=.rt d/\flat N d=Δ/\∃x,d=lD x/\LyOk m x:=by
 refine zax (zq3 (by lia) (by lia)) (wS_W _ ?_);left;exists zah hx;left;exists rfl;left;exists zae _ _;left;have op:=zjA h.h h.g;rw[<-hM]at op;let⟨k,hk,e⟩:=zdD (offL M p) x4 op;change by simp;lia
 left;exists zae _ _;left;rw[length_map,e];exists zfi hk;left;right;left;obtain⟨o1,o2⟩:(0<=(offL M p)[k]/\(offL M p)[k]<M)/\(offL M p)[k]∉p:=by subst hM;exact zeY (Ϙ hk)
 have pl:=h.l;have pg:=h.g;refine⟨_,rfl,?_,((t,p,(offL M p)[k]),w),rfl,⟨t1,t2,pl,by dsimp only;lia,h.h.2,h.h.1,?_,?_,ho⟩⟩;exact zdQ _ ((t,p,(offL M p)[k]),w);subst hM;exact o1;subst hM;exact o2
def zc0{cf:CF}{c:CE}{t r:CS}{δ:Ev}{S:R.St}{Q:Fl->R.St->Prop}(B:Bool->Prop)(e:W (evT cf c δ S) λb T=>T=S/\B b)(y:B Δ->W (exS cf t δ S) λf T=>match f with|.nx δ'=>W (exS cf r δ' T) Q|.rt d=>Q (.rt d) T)(n:B Θ->W (exS cf r δ S) Q):W (exS cf (.ifS c t .nil r) δ S) Q:=by
 let⟨b,T,e1,rfl,hb⟩:=W_ex e;show W (Out.bind _ _) _;rw[e1,zaz];cases b with
 |true=>rw[if_pos rfl,zab];refine(y hb).mono λf T hf=>?_;cases f with|nx δ'=>exact hf|rt d=>exact hf
 |false=>exact n hb
noncomputable abbrev LieQ(N m:Nat):Fl->R.St->Prop:=λr _=>∃d,r=.rt d/\flat N d=Δ/\∃x,d=lD x/\LyOk m x
section
variable{cf:CF}{T:R.St}{ax N m:Nat}{M:Int}{p:List Int}{w:Option Int}{t x0 x1 x2 x3 x4 x5:Int}{u0 u2 u3 u4 u8 u9 u10:Option D}
def zqE(hM:M=m)(hx:T.get ax=Φ (.lst [.int x0,.int x1,.int x2,.int x3,.int x4,.int x5]))(m7:m<=7)(h:Pth m p)(ho:wOk w)(t1:1<=t)(t2:t<=30) :
  W (exS cf (lieT 9) [u0,Φ (.int M),u2,u3,u4,Φ (.ref ax),Φ (pD p),Φ (oD w),u8,u9,Φ (.int t)] T) (LieQ N m):=by
 refine zc0 (λ_=>True) (wT_W _ ?_) (λ_=>?_) (λ_=>zqH hM hx m7 h ho t1 t2);left;exists hx;left;exists rfl;left;right;left;right;left;exact⟨rfl,trivial⟩;refine zax rfl (za4 ?_);exact zqH (w:=Ψ) hM hx m7 h (λi e=>by exact nS e) t1 t2
def zr0(hM:M=m)(hx:T.get ax=Φ (.lst [.int x0,.int x1,.int x2,.int x3,.int x4,.int x5]))(m7:m<=7)(h:Pth m p)(ho:wOk w)(t1:1<=t)(t2:t<=30) :
  W (exS cf (lieT 8) [u0,Φ (.int M),u2,u3,u4,Φ (.ref ax),Φ (pD p),Φ (oD w),u8,u9,Φ (.int t)] T) (LieQ N m):=by
 refine zc0 (λ_=>True) (wT_W _ ?_) (λ_=>?_) (λ_=>zqE hM hx m7 h ho t1 t2);left;exists hx;left;exists rfl;left;right;left;right;left;exact⟨rfl,trivial⟩;refine zax (d:=.int (1+x5/128%30)) (S':=T) (W.eq (wE_W _ ?_)) (za4 ?_);left;exists hx;left;exists rfl;left;right;left;right;left;exact⟨rfl,rfl⟩;exact zqE (t:=1+x5/128%30) hM hx m7 h ho (by lia) (by lia)
def zqF(hM:M=m)(hx:T.get ax=Φ (.lst [.int x0,.int x1,.int x2,.int x3,.int x4,.int x5]))(m7:m<=7)(h:Pth m p)(ho:wOk w) :
  W (exS cf (lieT 7) [u0,Φ (.int M),u2,u3,u4,Φ (.ref ax),Φ (pD p),Φ (oD w),u8,u9,u10] T) (LieQ N m):=by
 refine zax (d:=.int p.length) (S':=T) (W.eq (wE_W _ ?_)) ?_;left;exact⟨by rw[length_map],rfl⟩;have:=h.l;have:=h.g;exact zr0 (t:=p.length) hM hx m7 h ho (by lia) (by lia)
def Pth.rev{m:Nat}{p:List Int}(h:Pth m p):Pth m p.reverse:=⟨h.h.perm (List.reverse_perm p),by rw[List.length_reverse];exact h.l,by rw[List.length_reverse];exact h.g⟩
def zqG(hM:M=m)(hx:T.get ax=Φ (.lst [.int x0,.int x1,.int x2,.int x3,.int x4,.int x5]))(m7:m<=7)(h:Pth m p)(ho:wOk w) :
  W (exS cf (lieT 6) [u0,Φ (.int M),u2,u3,u4,Φ (.ref ax),Φ (pD p),Φ (oD w),u8,u9,u10] T) (LieQ N m):=by
 refine zc0 (λ_=>True) (wT_W _ ?_) (λ_=>?_) (λ_=>zqF hM hx m7 h ho);left;exists hx;left;exists rfl;left;right;left;exact⟨rfl,trivial⟩;refine zax (d:=pD p.reverse) (S':=T) (W.eq (wE_W _ ?_)) (za4 ?_);left;change rfl;left;exact⟨by rw[<-List.map_reverse],rfl⟩;exact zqF (p:=p.reverse) hM hx m7 h.rev ho
end
def Pth.snoc{m:Nat}{p:List Int}{o:Int}(h:Pth m p)(ho:0<=o/\o<m)(hn:o∉p)(hl:p.length+1<m):Pth m (p++[o]):=by refine⟨⟨?_,?_⟩,by simp,by simpa using hl⟩;rw[nodup_append];refine⟨h.h.1,by simp,?_⟩;intro a ha b hb e;rw[mem_singleton]at hb;subst hb;subst e;exact hn ha;intro i hi;rcases mem_append.mp hi with z|z;exact h.h.2 i z;rw[mem_singleton]at z;subst z;exact ho
def LyOk.pth{m:Nat}{x:Ly}(h:LyOk m x):Pth m x.1.2.1:=by
 refine⟨⟨h.pn,h.pi⟩,h.p1,?_⟩;have:Hs m (x.1.2.1++[x.1.2.2]):=by refine⟨?_,?_⟩;rw[nodup_append];refine⟨h.pn,by simp,?_⟩;intro a ha b hb e;rw[mem_singleton]at hb;subst hb;subst e;exact h.hp ha;intro i hi;rcases mem_append.mp hi with z|z;exact h.pi i z;rw[mem_singleton]at z;subst z;exact h.hi
 have:=this.len;rw[length_append,List.length_singleton]at this;lia
def zgL(p:List Int)(o:Int):D.tup (p.map D.int++[D.int o])=pD (p++[o]):=by simp
section
variable{cf:CF}{T:R.St}{ax N m:Nat}{M:Int}{p:List Int}{w:Option Int}{x0 x1 x2 x3 x4 x5:Int}{u0 u2 u3 u4 u8 u9 u10:Option D}
def zjX(hM:M=m)(hx:T.get ax=Φ (.lst [.int x0,.int x1,.int x2,.int x3,.int x4,.int x5]))(m7:m<=7)(h:Pth m p)(ho:wOk w) :
  W (exS cf (lieT 5) [u0,Φ (.int M),u2,u3,u4,Φ (.ref ax),Φ (pD p),Φ (oD w),u8,u9,u10] T) (LieQ N m):=by
 refine zc0 (λb=>b=Δ->p.length+1<m) (wT_W _ ?_) (λhb=>?_) (λ_=>zqG hM hx m7 h ho);left;exists hx;left;exists rfl;left;right;left;refine zbp (λc=>?_) (λc=>?_);left;refine⟨rfl,λe=>?_⟩;have:=of_decide_eq_true e;rw[length_map]at this;lia;left;exact⟨rfl,λe=>by exact nB e⟩;have hl:=hb rfl;have op:=zjA h.h h.g;rw[<-hM]at op;let⟨k,hk,e⟩:=zdD (offL M p) (x3/2) op;obtain⟨o1,o2⟩:(0<=(offL M p)[k]/\(offL M p)[k]<M)/\(offL M p)[k]∉p:=by subst hM;exact zeY (Ϙ hk)
 refine zax (zq3 (by lia) (by lia)) (zax (d:=pD (p++[(offL M p)[k]])) (S':=T.push (.lst ((offL M p).map .int))) (W.eq (wE_W _ ?_)) (za4 ?_));left;exists zah hx;left;exists rfl;left;right;left;exists zae _ _;left;change by simp;lia
 left;exists zae _ _;left;rw[length_map,e];exists zfi hk;left;right;left;change(by have:=h.g;simp;lia);left;exact⟨zgL _ _,rfl⟩;subst hM;exact zqG (p:=p++[(offL m p)[k]]) rfl (zah hx) m7 (h.snoc o1 o2 hl) ho
def zr1{tl:Nat}{Ls:List Ly}(hM:M=m)(hx:T.get ax=Φ (.lst [.int x0,.int x1,.int x2,.int x3,.int x4,.int x5]))(ht:T.get tl=Φ (.lst (Ls.map lD)))(hk:∀x∈Ls,LyOk m x)(m7:m<=7)(h:Pth m p)(ho:wOk w) :
  W (exS cf (lieT 4) [u0,Φ (.int M),u2,Φ (.ref tl),u4,Φ (.ref ax),Φ (pD p),Φ (oD w),u8,u9,u10] T) (LieQ N m):=by
 refine zc0 (λb=>b=Δ->0<Ls.length) (wT_W _ ?_) (λhb=>?_) (λ_=>zjX hM hx m7 h ho);left;exists ht;left;refine zbp (λc=>?_) (λc=>?_);left;exists hx;left;exists rfl;left;right;left;refine⟨rfl,λe=>?_⟩;rw[length_map]at c;lia;left;exact⟨rfl,λe=>by exact nB e⟩;have hl:=hb rfl;let⟨k,hk',e⟩:=zdD Ls x2 hl;obtain⟨⟨⟨t,q,o⟩,v⟩,hq⟩:∃x,x=Ls[k]:=⟨_,rfl⟩;have ok:=hk _ (Ϙ hk');rw[<-hq]at ok;have pq:Pth m q:=ok.pth;refine zax (d:=lD ((t,q,o),v)) (S':=T) (W.eq (wE_W _ ?_)) (zax (d:=pD q) (S':=T) (W.eq (wE_W _ ?_)) (zax (d:=oD v) (S':=T) (W.eq (wE_W _ ?_)) ?_));left;exists hx;left;exists rfl;left;exists ht;left;change by simp;lia
 left;exists ht;left;rw[length_map,e];exists zcr (by rw[getElem?_map,Η hk',<-hq];rfl);left;exact⟨rfl,rfl⟩;left;exists rfl;left;exact⟨rfl,rfl⟩;left;exists rfl;left;exact⟨rfl,rfl⟩;refine zc0 (λb=>b=Δ->q.length+1<m) (wT_W _ ?_) (λhb=>?_) (λ_=>za4 ?_);left;exists hx;left;exists rfl;left;right;left;refine zbp (λc=>?_) (λc=>?_);left;refine⟨rfl,λe=>?_⟩;have:=of_decide_eq_true e;rw[length_map]at this;lia;left;exact⟨rfl,λe=>by exact nB e⟩;refine zax (d:=pD (q++[o])) (S':=T) (W.eq (wE_W _ ?_)) (za4 (za4 ?_));left;exists rfl;left;right;left;change(by have:=pq.g;simp;lia);left;exact⟨zgL _ _,rfl⟩;exact zjX (p:=q++[o]) hM hx m7 (pq.snoc ok.hi ok.hp (hb rfl)) ok.wd;exact zjX (p:=q) hM hx m7 pq ok.wd
end
def zkL{P:List Fn}{F:Fn}{f n:Nat}{ds:List D}{S:R.St}{B:D->Prop}(h:P[f]?=Φ F)(hl:ds.length=F.np)(w:W (exS (callF P n) F.body (zaR F ds) S.enter) λr T=>∃d,r=.rt d/\flat S.len d=Δ/\B d)(hp:F.prim=Ψ:=by rfl) :
  ∃d,B d/\app (callF P (n+1)) f ds S=.ok d S:=by
 have:W (app (callF P (n+1)) f ds S) λa T'=>B a/\T'=S:=by rw[zgm h hl hp,zab];refine w.mono λr T q=>?_;let⟨d,rfl,h3,h4⟩:=q;have:=zag (T:=T) (Q:=λa T'=>B a/\T'=S) h3 ⟨h4,rfl⟩;unfold wFin at this;exact this
 let⟨a,T,e,b,rfl⟩:=W_ex this;exact⟨a,b,e⟩
def zon(x y:Int):∃z,atI [D.int 0,D.int 0,D.int 0,D.int x] (y%4)=Φ (.int z):=by rcases(show y%4=0\/y%4=1\/y%4=2\/y%4=3 by lia) with h|h|h|h;exact⟨0,by rw[h];rfl⟩;exact⟨0,by rw[h];rfl⟩;exact⟨0,by rw[h];rfl⟩;exact⟨x,by rw[h];rfl⟩
def zpE{n tl wl:Nat}{S:R.St}{c s M:Int}{m:Nat}{ws:List Int}{Ls:List Ly}(hM:M=m)(m2:2<=m)(m7:m<=7)(hw:S.get wl=Φ (.lst (ws.map .int)))(wd:Wd ws)(ht:S.get tl=Φ (.lst (Ls.map lD)))(hk:∀x∈Ls,LyOk m x) :
  ∃d,(∃x,d=lD x/\LyOk m x)/\app (callF prog (n+2)) 18 [.int c,.int M,.int s,.ref tl,.ref wl] S=.ok d S:=by
 refine zkL (F:=c_law_lie) rfl rfl ?_;refine zc0 (λ_=>True) (wT_W _ ?_) (λ_=>wS_W _ ?_) (λ_=>?_);left;right;left;exact⟨rfl,trivial⟩;let⟨d,⟨x,e1,e2⟩,e⟩:=zpF (n:=n) (S:=S.enter) (c:=c/2) m2 m7 (by rw[zaZ];exact hw) wd;subst hM;left;right;left;specialize e;left;exact⟨d,rfl,by rw[e1];exact zdQ _ _,x,e1,e2⟩;let⟨rs,⟨xs,rfl,hx⟩,e⟩:=znp (n:=n) (S:=S.enter) (c:=c/2);obtain⟨x0,x1,x2,x3,x4,x5,rfl⟩:∃x0 x1 x2 x3 x4 x5,xs=[x0,x1,x2,x3,x4,x5]:=by match xs,hx with| [a,b,c,d,e,f],_=>exact⟨a,b,c,d,e,f,rfl⟩
 let⟨z,hz⟩:=zon x2 (x0/64);have hw':S.enter.get wl=Φ (.lst (ws.map .int)):=by rw[zaZ];exact hw
 have ht':S.enter.get tl=Φ (.lst (Ls.map lD)):=by rw[zaZ];exact ht
 let⟨k,hk',ek⟩:=zdD ws x0 (by rw[wd.1];lia);rw[wd.1]at ek;let T1:=S.enter.push (.lst [.int x0,.int x1,.int x2,.int x3,.int x4,.int x5]);let T2:=T1.push (.lst [.int 0,.int 0,.int 0,.int x2]);have hx1:T1.get S.enter.len=Φ (.lst [.int x0,.int x1,.int x2,.int x3,.int x4,.int x5]):=zae _ _;have hx2:T2.get S.enter.len=Φ (.lst [.int x0,.int x1,.int x2,.int x3,.int x4,.int x5]):=zah hx1;refine zax (d:=.ref S.enter.len) (S':=T1) (W.eq (wE_W _ ?_)) (zax (d:=pD [(s+z)%M]) (S':=T2) (W.eq (wE_W _ ?_)) (zax (d:=oD (Φ ws[k])) (S':=T2) (W.eq (wE_W _ ?_)) ?_));left;right;left;specialize e;left;exact⟨rfl,rfl⟩;left;exists hx1;left;exists rfl;left;right;left;exists zah hx1;left;exists rfl;left;right;left;right;left;exists zae _ _;left;exists hz;left;change by lia
 left;right;left;exact⟨rfl,rfl⟩;left;exists hx2;left;exists rfl;left;right;left;exists zah (zah hw');left;rw[show x0%4=(k:Int) from ek];exists zfi hk';left;exact⟨rfl,rfl⟩;refine zr1 (p:=[(s+z)%M]) (w:=Φ ws[k]) hM hx2 (zah (zah ht')) hk m7 ⟨⟨by simp,?_⟩,by simp,by simp;lia⟩ ?_;intro i hi;rw[mem_singleton]at hi;subst hi;have h1:=emod_nonneg (s+z) (show M≠0 by lia);have h2:=Int.emod_lt_of_pos (s+z) (show 0<M by lia);subst hM;exact⟨h1,h2⟩;intro i e;cases e;exact wd.2 _ (Ϙ hk')
def znr{n cl wl:Nat}{S:R.St}{s:Int}{m:Nat}{ws cs:List Int}(m1:1<=m)(m7:m<=7)(hw:S.get wl=Φ (.lst (ws.map .int)))(wd:Wd ws)(hc:S.get cl=Φ (.lst (cs.map .int)))(hl:cs.length<=57) :
  ∃rs,(∃Ls:List Ly,rs=Ls.map lD/\Ls.length<=57/\∀x∈Ls,LyOk m x)/\app (callF prog (n+3)) 19 [.ref cl,.int m,.int s,.ref wl] S=.ok (.ref S.len) (S.push (.lst rs)):=by
 refine zfj (F:=zex) rfl rfl ?_;left;right;left;refine zbp (λc=>?_) (λc=>?_);left;refine zbq hc ?_;left;refine zal ?_;refine W.mono (zan (λi δ T=>∃(u:Option D) (Ls:List Ly),δ=[Φ (.ref cl),Φ (.int m),Φ (.int s),Φ (.ref wl),Φ (.ref ((S.frz++S.new).length+0)),u]/\Ls.length=i/\(∀x∈Ls,LyOk m x)/\T=⟨S.frz++S.new,[.lst (Ls.map lD)],[cl]⟩) (λ_ _=>False) _ 0 _ _ ⟨Ψ,[],rfl,rfl,by simp,rfl⟩ ?_) ?_;rintro i z δ T hz ⟨u,Ls,rfl,h1,h2,rfl⟩;rw[getElem?_map]at hz;cases hz':cs[i]? with
 |none=>rw[hz']at hz;exact nS hz
 |some y=>
  rw[hz']at hz;cases hz;have hi:i<cs.length:=(Ζ.mp hz').1;let⟨d,⟨x,rfl,ok⟩,e⟩:=zpE (n:=n) (S:=⟨S.frz++S.new,[.lst (Ls.map lD)],[cl]⟩) (c:=y%10^64) (s:=s) (tl:=(S.frz++S.new).length+0) rfl (by lia) m7 (zdO hw _ _) wd (zbL _ _ _ 0) h2;refine⟨_,rfl,wS_W _ ?_⟩;have lt:=get_lt hc;left;refine zay rfl ?_;left;right;left;right;left;specialize e;left;refine zay rfl ?_;left;change by simp;lia
  left;refine zbV (by simp[St.len]at lt⊢;lia) ?_;left;refine⟨_,Ls++[x],rfl,by simp;lia,?_,by simp⟩;intro a ha;rcases mem_append.mp ha with q|q;exact h2 a q;rw[mem_singleton]at q;subst q;exact ok
 rintro f T h';cases f with|rt d=>exact h'.elim| nx δ=>let⟨u,Ls,rfl,h1,h2,rfl⟩:=h';left;refine⟨_,_,rfl,?_,zbL _ _ _ 0,zhD _ Ls,Ls,rfl,?_,h2⟩;simp[St.len];simp at h1;lia
 left;refine⟨_,_,rfl,?_,zbL _ _ _ 0,zhD _ [],[],rfl,by simp,by simp⟩;simp[St.len]
def ziM{S T:R.St}{ds:List D}{Q:D->R.St->Prop}(h:flat S.len (.tup ds)=Θ)(q:Q (.tup ds) ⟨S.frz,S.new++T.new,S.lk⟩):wFin S (.rt (.tup ds)) T Q:=by unfold wFin;rw[zkq];unfold zc9;simp![h,Κ,if_false];exact q
def zgV{α β:Type}(f:α->β)(xs:List α)(lo hi:Option Int):cut (xs.map f) lo hi=(cut xs lo hi).map f:=by unfold cut;rw[length_map,List.map_take,List.map_drop]
def zmG{α:Type}(xs:List α):(cut xs (Φ 5) (Φ 62)).length<=57:=by unfold cut;rw[length_take,List.length_drop];have h1:R.sIx xs.length 0 (Φ 5)=min 5 xs.length:=rfl;have h2:R.sIx xs.length xs.length (Φ 62)=min 62 xs.length:=rfl;rw[h1,h2];omega
structure Scr(m:Nat)(b s w:Int)(hs:List Int)(Ls:List Ly):Prop where
 m1:1<=m
 m7:m<=7
 b0:0<=b
 b5:b<=5
 s0:0<=s
 sm:s<m
 wd:-10^60<w/\w<10^60
 hl:hs.length<=7
 hi:∀i∈hs,0<=i/\i<m
 ll:Ls.length<=57
 lk:∀x∈Ls,LyOk m x
def zi9{n:Nat}{S:R.St}{ns:List Int}:∃(m:Nat) (b s w:Int) (hs ws cs:List Int) (Ls:List Ly),Scr m b s w hs Ls/\
  app (callF prog (n+4)) 21 [.fix (ns.map .int)] S=.ok (.tup [.int m,.int b,.ref S.len,.int s,.int w,.ref (S.len+3)]) ⟨S.frz,S.new++[.lst (hs.map .int),.lst (ws.map .int),.lst (cs.map .int),.lst (Ls.map lD)],S.lk⟩:=by
 obtain⟨m,hM⟩:∃m:Nat,1+zbP ns 0%7=m:=⟨(1+zbP ns 0%7).toNat,by lia⟩;have m1:1<=m:=by lia
 have m7:m<=7:=by lia
 let⟨rs,⟨hs,rfl,h1,h2⟩,e20⟩:=zpA (n:=n+2) (S:=S.enter) (c:=zbP ns 1) m7;let ws:=[bigZ (zbP ns 3),bigZ (zbP ns 4),0,zbP ns 4%5-2];have wd:Wd ws:=by refine⟨rfl,λi hi=>?_⟩;simp![ws,mem_cons,not_mem_nil,or_false]at hi;rcases hi with rfl|rfl|rfl|rfl;exact zmI _;exact zmI _;lia;lia
 let cs:=cut ns (Φ 5) (Φ 62);let T1:=S.enter.push (.lst (hs.map .int));let T2:=T1.push (.lst (ws.map .int));let T3:=T2.push (.lst (cs.map .int));let⟨rs,⟨Ls,rfl,l1,l2⟩,e19⟩:=znr (n:=n) (S:=T3) (s:=zbP ns 2%m) (cl:=T2.len) (wl:=T1.len) (cs:=cs) m1 m7 (zah (zae _ _)) wd (zae _ _) (zmG ns);let⟨k,hk,ek⟩:=zdD ws (zbP ns 2/7) (by simp[ws]);refine⟨m,zbP ns 0/7%6,zbP ns 2%m,ws[k],hs,ws,cs,Ls,⟨m1,m7,by lia,by lia,emod_nonneg _ (by lia),Int.emod_lt_of_pos _ (by lia),wd.2 _ (Ϙ hk),by lia,h2,l1,l2⟩,?_⟩;refine zaM (F:=zcI) rfl rfl ?_;left;specialize zca (n:=n+2) (k:=0);left;right;left;rw[hM];left;specialize zca (n:=n+2) (k:=1);left;specialize e20;left;specialize zca (n:=n+2) (k:=2);left;change by lia
 left;specialize zca (n:=n+2) (k:=3);left;specialize(zpG (n:=n+2));left;specialize zca (n:=n+2) (k:=4);left;specialize(zpG (n:=n+2));left;specialize zca (n:=n+2) (k:=4);left;right;left;right;left;rw[zgV];change by rw[length_map];have:=zmG ns;lia
 left;specialize e19;left;specialize zca (n:=n+2) (k:=0);left;right;left;right;left;specialize zca (n:=n+2) (k:=2);left;right;left;right;left;exists zah (zah (zae T1 (.lst (ws.map .int))));left;rw[show zbP ns 2/7%4=(k:Int) from ek];exists zfi hk;left;right;left;refine ziM ?_ ⟨?_,?_⟩;simp[flat,flats,St.len,St.enter];simp[St.len,St.enter,T3,T2,T1,St.push];simp[T3,T2,T1,St.push,St.enter]
def zk9{n:Nat}{S:R.St}{ns:List Int}{b:Int}(b0:0<=b)(b5:b<=5):∃(r:Option Int) (l:Int),(1<=l/\l<=8)/\(match r with|none=>l=b+1|some z=>z=l)/\app (callF prog (n+2)) 22 [.fix (ns.map .int),.int b] S=.ok (.tup [oD r,.int l]) S:=by by_cases c:zbP ns 2/28%2=0;refine⟨Ψ,b+1,by lia,rfl,zaM (F:=zbR) rfl rfl ?_⟩;left;specialize zca (n:=n) (k:=2);left;right;left;right;left;refine zhP (by simpa using c) ?_;left;right;left;exact zag (by simp[flat,flats,oD]) ⟨rfl,rfl⟩;refine⟨Φ (1+zbP ns 2/28/2%8),1+zbP ns 2/28/2%8,by lia,rfl,zaM (F:=zbR) rfl rfl ?_⟩;left;specialize zca (n:=n) (k:=2);left;right;left;right;left;refine ziL (by simpa using c) ?_;left;right;left;right;left;right;left;right;left;right;left;exact zag (by simp[flat,flats,oD]) ⟨rfl,rfl⟩
def zbf{S T:R.St}{x:D}{f:PySem.Str}{v:D}(h:zbF S x f v=Φ T):T.len=S.len:=by unfold zbF at h;split at h;split at h;split at h;unfold St.put at h;split at h;exact nS h;split at h;exact nS h;cases h;simp[St.len];exact nS h;exact nS h;exact nS h
abbrev sD(m b:Int)(X Y:D):MO:=.ins 2 [("many",.int m),("bound",.int b),("liars",X),("lies",Y)]
def zn0{n a:Nat}{S:R.St}{m b:Int}{x y X Y:D}(e:S.get a=Φ (.ins 2 []))(hf:Fr S a)(m1:1<=m)(m7:m<=7)(b0:0<=b)(b5:b<=5)
  (hx:∀T,Mv [a] S T->app (callF prog (n+5)) 7 [.int m,x] T=.ok X T) (hy:∀T,Mv [a] S T->app (callF prog (n+5)) 8 [.int m,y] T=.ok Y T) :
  W (appW (callF prog (n+6)) 39 [.ref a,.int m,.int b,x,y] S) λd T=>d=.non/\Mv [a] S T/\T.len=S.len/\T.get a=Φ (sD m b X Y):=by
 refine zcM (F:=zbj) rfl rfl (wS_W _ ?_);left;specialize zgt (n:=n+3) m1 m7;left;let⟨T1,h1,v1,g1⟩:=zb9 (f:="many") (v:=.int m) (gs:=[("many",.int m)]) e hf (by simp) rfl;exists h1;left;specialize zgt (n:=n+3) b0 b5;left;let⟨T2,h2,v2,g2⟩:=zb9 (f:="bound") (v:=.int b) (gs:=[("many",.int m),("bound",.int b)]) g1 (hf.mv v1) (by simp) rfl;exists h2;left;specialize hx T2 (v1.trans v2);left;let⟨T3,h3,v3,g3⟩:=zb9 (f:="liars") (v:=X) (gs:=[("many",.int m),("bound",.int b),("liars",X)]) g2 ((hf.mv v1).mv v2) (by simp) rfl;exists h3;left;specialize hy T3 ((v1.trans v2).trans v3);left;let⟨T4,h4,v4,g4⟩:=zb9 (f:="lies") (v:=Y) (gs:=[("many",.int m),("bound",.int b),("liars",X),("lies",Y)]) g3 (((hf.mv v1).mv v2).mv v3) (by simp) rfl;exists h4;left;exact⟨rfl,((v1.trans v2).trans v3).trans v4,by rw[zbf h4,zbf h3,zbf h2,zbf h1],g4⟩
def zhY{n:Nat}{S:R.St}{r:Option Int}{b l:Int}(l1:1<=l)(l8:l<=8)(h:match r with|none=>l=b+1|some z=>z=l):app (callF prog (n+3)) 11 [oD r,.int b] S=.ok (.int l) S:=by refine zaM (F:=zdX) rfl rfl ?_;cases r with| none=>subst h;left;exact zag rfl ⟨rfl,rfl⟩| some z=>subst h;left;specialize zgt (n:=n) l1 l8;left;exact zag rfl ⟨rfl,rfl⟩
def zk8{n:Nat}{S:R.St}{i:Int}(h:-10^60<i/\i<10^60):app (callF prog (n+3)) 5 [.int i] S=.ok (.int i) S:=by refine zaM (F:=zga) rfl rfl ?_;left;specialize zmj (n:=n) h;left;exact zag rfl ⟨rfl,rfl⟩
def znB{T:R.St}{l:Nat}{o u:MO}(hf:Fr T l)(e:T.get l=Φ o):∃U,T.put l u=Φ U/\Mv [l] T U/\U.len=T.len/\U.get l=Φ u:=by let⟨U,h1,h2,h3,h4,h5,h6⟩:=zeR (S:=T) (l:=l) u hf.f hf.k;exact⟨U,h1,⟨h2,h3,by lia,λm x hm e=>by rw[h5 m (by simpa using hm)];exact e⟩,h4,h6 (get_lt e)⟩
abbrev bkD(ad:Nat):MO:=.ins 0 [("made",.ref ad)]
def key3_of(h:Int)(p:List Int)(w:Int):key3 (.tup [.int h,pD p,.int w])=Φ (h,p,w):=by unfold key3;dsimp only;rw[zba];rfl
def znZ{S:R.St}{n ab ad:Nat}{kvs:List (K3×D)}{h w:Int}{p:List Int}(gb:S.get ab=Φ (bkD ad))(gd:S.get ad=Φ (.d3 kvs))(hf:Fr S ad)(hl:kvs.length<16777216) :
  W (appW (callF prog (n+1)) 29 [.ref ab,.int h,pD p,.int w] S) λd T=>d=.non/\Mv [ad] S T/\T.len=S.len/\T.get ad=Φ (.d3 (zeS kvs (h,p,w) (.bl Δ))):=by
 refine zcM (F:=zc3) rfl rfl (wS_W _ ?_);left;exists zaF gb rfl;left;right;left;let⟨U,h1,h2,h4,h3⟩:=znB (u:=.d3 (zeS kvs (h,p,w) (.bl Δ))) hf gd;have e:dPut S (.ref ad) (.tup [.int h,pD p,.int w]) (.bl Δ)=Φ U:=by unfold dPut;dsimp only;rw[gd];dsimp only;rw[key3_of,bind_some,if_pos hl,h1]
 exists e;left;exact⟨rfl,h2,h4,h3⟩
def zrW{S:R.St}{n ab ad:Nat}{kvs:List (K3×D)}{h w:Int}{p:List Int}(gb:S.get ab=Φ (bkD ad))(gd:S.get ad=Φ (.d3 kvs)) :
  ∃b:Bool,appW (callF prog (n+1)) 28 [.ref ab,.int h,pD p,.int w] S=.ok (.bl b) S:=by
 have:∃b,cmpO S .In (.tup [.int h,pD p,.int w]) (.ref ad)=Φ b:=by unfold cmpO zfX;dsimp only;rw[show d3K S (.ref ad)=Φ kvs by unfold d3K;dsimp only;rw[gd]];dsimp only;rw[key3_of];exact⟨_,rfl⟩
 let⟨b,hb⟩:=this;refine⟨b,zcs (F:=zeB) rfl rfl ?_⟩;left;right;left;exists zaF gb rfl;left;exists hb;left;exact⟨rfl,rfl⟩
def zo7{cf:CF}{e:CE}{T:R.St}{rest:Ev}:∀(xs:List (Int×Int))(u v:Option D),(∀x∈xs,∃b,evE cf e (Φ (.int x.1)::Φ (.int x.2)::rest) T=.ok (.bl b) T)->
  ∃bs:List Bool,bs.length=xs.length/\zaw [0,1] (evT cf (.tst (.con (.bl Δ)))) (evE cf e) (xs.map λx=>zcA (.int x.1) (.int x.2)) (u::v::rest) T=.ok (bs.map .bl) T
 | [],_,_,_=>⟨[],rfl,rfl⟩| x::xs,u,v,hh=>by let⟨bs,l,ih⟩:=zo7 (cf:=cf) (e:=e) (T:=T) (rest:=rest) xs (Φ (.int x.1)) (Φ (.int x.2)) λz hz=>hh z (Ρ _ hz);let⟨b,hb⟩:=hh x Υ;refine⟨b::bs,by simp[l],?_⟩;rw[ϊ,ϊ];unfold zaw;show Out.bind (.ok Δ T) _=_;rw[zaz,if_pos rfl];show Out.bind (evE cf e (Φ (.int x.1)::Φ (.int x.2)::rest) T) _=_;rw[hb,zaz];show Out.bind (zaw [0,1] _ _ (xs.map _) (Φ (.int x.1)::Φ (.int x.2)::rest) T) _=_;rw[ih];rfl
def zf4(p:List Int):(p.map D.int).mapIdx (λi d=>zcA (.int (i:Nat)) d)=(p.mapIdx λ(i:Nat) q=>((i:Int),q)).map λx=>zcA (.int x.1) (.int x.2):=by refine ext_getElem? λi=>?_;rw[List.getElem?_mapIdx,getElem?_map,getElem?_map,List.getElem?_mapIdx];cases p[i]?<;>rfl
def zoJ(bs:List Bool):∃b,allD (bs.map .bl)=Φ b:=by
 unfold allD;have:(bs.map D.bl).mapM zeC=Φ bs:=by induction bs with|nil=>rfl|cons q qs ih=>rw[ϊ,mapM_cons,ih];rfl
 rw[this];exact⟨_,rfl⟩
def zrX{S:R.St}{n ab ad:Nat}{kvs:List (K3×D)}{w:Int}{p:List Int}(gb:S.get ab=Φ (bkD ad))(gd:S.get ad=Φ (.d3 kvs))(pl:p.length<=100) :
  ∃b:Bool,appW (callF prog (n+2)) 27 [.ref ab,pD p,.int w] S=.ok (.bl b) S:=by
 let⟨bs,hl,hb⟩:=zo7 (cf:=callF prog (n+1)) (e:=.meth "has" [(0,28)] J3 #[J1,.sl J4 Θ Δ (.con .non) J0,J2]) (T:=S) (rest:=[Φ (.int w),Φ (.ref ab),Φ (pD p)]) (p.mapIdx λ(i:Nat) q=>((i:Int),q)) Ψ Ψ (λx hx=>by let⟨b,hb⟩:=zrW (n:=n) (h:=x.2) (p:=cut p Ψ (Φ x.1)) (w:=w) gb gd;refine⟨b,W.eq (wE_W _ ?_)⟩;left;exists zar gb;left;exists rfl;left;change rfl;left;rw[zgV];specialize hb;left;exact⟨rfl,rfl⟩);let⟨b,ha⟩:=zoJ bs;refine⟨b,zcs (F:=zch) rfl rfl ?_⟩;left;exists(show zdS S (pD p)=Φ ((p.map D.int).mapIdx (λi d=>zcA (.int (i:Nat)) d),[]) from rfl);left;rw[zf4];refine zal ?_;refine W.of hb ?_;change by rw[length_map,hl,length_mapIdx];lia
 left;exists ha;left;exact⟨rfl,rfl⟩
abbrev wrL(t:Int)(Ls:List Ly):List KP:=Ls.filterMap λx=>if x.1.1=t then x.2.map λw=>(x.1.2.1,x.1.2.2,w) else Ψ
def t_wr{cf:CF}{T:R.St}{t:Int}:∀(Ls:List Ly)(u:Option D),
  zaw [0] (evT cf (.and (.cmp .Eq (.ix J0 U0) J1) (.cmp .IsNot (.ix J0 U3) (.con D.non)))) (evE cf (.sl J0 Δ Θ U1 (.con .non))) (Ls.map lD) [u,Φ (.int t)] T=.ok ((wrL t Ls).map lpD) T
 | [],_=>rfl| x::Ls,u=>by
  have ih:=t_wr (cf:=cf) (T:=T) (t:=t) Ls (Φ (lD x));let⟨⟨tt,p,o⟩,w⟩:=x;rw[ϊ];unfold zaw;show Out.bind (evT cf (.and (.cmp .Eq (.ix J0 U0) J1) (.cmp .IsNot (.ix J0 U3) (.con D.non))) [Φ (lD ((tt,p,o),w)),Φ (.int t)] T) _=_;have e:evT cf (.and (.cmp .Eq (.ix J0 U0) J1) (.cmp .IsNot (.ix J0 U3) (.con D.non))) [Φ (lD ((tt,p,o),w)),Φ (.int t)] T=.ok (decide (tt=t)&&w.isSome) T:=by
   refine W.eq (wT_W _ ?_);left;exists rfl;left;refine zbp (λc=>?_) (λc=>?_);left;exists rfl;left;cases w with|none=>exact⟨by simp;rfl,rfl⟩|some w=>exact⟨by rw[show tt=t from c];simp;rfl,rfl⟩
   exact⟨by rw[decide_eq_false (show ¬tt=t from c)];rfl,rfl⟩
  rw[e,zaz];by_cases c:tt=t;cases w with| none=>simp![c,decide_true,Option.isSome_none,Bool.and_false,Κ,if_false];show zaw [0] _ _ (Ls.map lD) [Φ (lD ((t,p,o),Ψ)),Φ (.int t)] T=_;have ih:=t_wr (cf:=cf) (T:=T) (t:=t) Ls (Φ (lD ((t,p,o),Ψ)));rw[ih];simp[wrL]| some w=>simp![c,decide_true,Option.isSome_some,Bool.and_true,if_true];have e2:evE cf (.sl J0 Δ Θ U1 (.con .non)) [Φ (lD ((t,p,o),Φ w)),Φ (.int t)] T=.ok (lpD (p,o,w)) T:=rfl;show Out.bind (evE cf (.sl J0 Δ Θ U1 (.con .non)) [Φ (lD ((t,p,o),Φ w)),Φ (.int t)] T) _=_;rw[e2,zaz];show Out.bind (zaw [0] _ _ (Ls.map lD) [Φ (lD ((t,p,o),Φ w)),Φ (.int t)] T) _=_;have ih:=t_wr (cf:=cf) (T:=T) (t:=t) Ls (Φ (lD ((t,p,o),Φ w)));rw[ih,zaz];simp[wrL]
  simp![c,decide_false,Bool.false_and,Κ,if_false];show zaw [0] _ _ (Ls.map lD) [Φ (lD ((tt,p,o),w)),Φ (.int t)] T=_;rw[ih];simp[wrL,c]
def put3_len(kvs:List (K3×D))(k:K3)(v:D):(zeS kvs k v).length<=kvs.length+1:=by unfold zeS;split<;>simp
abbrev zr2:CS:=.forS [7,8] (.enum J4) (.ifS (.cmp .In J8 (.fld J1 "liars")) (.expr (.meth "stamp" [(0,29)] (.fld J0 "book") #[J8,.sl J4 Θ Δ (.con .non) J7,J6]) .nil) .nil .nil) .nil
section
variable{n a as ab ad:Nat}{m b t:Int}{fs:List (PySem.Str×D)}{lz:List Int}{Ls:List Ly}
structure Bk(a as ab ad:Nat)(fs:List (PySem.Str×D))(sd:MO)(S:R.St):Prop where
 ga:S.get a=Φ (.ins 1 fs)
 fb:fs.lookup ("book":PySem.Str)=Φ (.ref ab)
 gs:S.get as=Φ sd
 gb:S.get ab=Φ (bkD ad)
 hf:Fr S ad
 n1:ab≠ad
 n2:a≠ad
 n3:as≠ad
def Bk.mv{sd:MO}{A:List Nat}{S T:R.St}(h:Bk a as ab ad fs sd S)(v:Mv A S T)(q:a∉A/\as∉A/\ab∉A):Bk a as ab ad fs sd T:=⟨v.old _ _ q.1 h.ga,h.fb,v.old _ _ q.2.1 h.gs,v.old _ _ q.2.2 h.gb,h.hf.mv v,h.n1,h.n2,h.n3⟩
def Bk.one{sd:MO}{S T:R.St}(h:Bk a as ab ad fs sd S)(v:Mv [ad] S T):Bk a as ab ad fs sd T:=h.mv v ⟨by simpa using h.n2,by simpa using h.n3,by simpa using h.n1⟩
def zfr{S:R.St}{kvs:List (K3×D)}{h w:Int}{p:List Int}{sd:MO}(B:Bk a as ab ad fs sd S)(gd:S.get ad=Φ (.d3 kvs))(hl:kvs.length<16777216) :
  W (appW (callF prog (n+1)) 29 [.ref ab,.int h,pD p,.int w] S) λd T=>d=.non/\Mv [ad] S T/\T.len=S.len/\∃kvs',T.get ad=Φ (.d3 kvs')/\kvs'.length<=kvs.length+1:=
 (znZ B.gb gd B.hf hl).mono λd T z=>(by let⟨q1,q2,q3,q4⟩:=z;exact ⟨q1,q2,q3,_,q4,put3_len _ _ _⟩)
def zoh{S:R.St}{l3:D}{p:List Int}{o w:Int}{u7 u8:Option D}{kvs:List (K3×D)}(B:Bk a as ab ad fs (sD m b (pD lz) (.tup (Ls.map lD))) S)(gd:S.get ad=Φ (.d3 kvs))(hl:kvs.length<=1000000)(hp:p.length<=7) :
  W (exS (callF prog (n+1)) zr2 [Φ (.ref a),Φ (.ref as),Φ (.int t),Φ l3,Φ (pD p),Φ (.int o),Φ (.int w),u7,u8] S) λf T=>match f with|.nx δ=>(∃u v,δ=[Φ (.ref a),Φ (.ref as),Φ (.int t),Φ l3,Φ (pD p),Φ (.int o),Φ (.int w),u,v])/\Mv [ad] S T/\∃kvs',T.get ad=Φ (.d3 kvs')/\kvs'.length<=kvs.length+7|.rt _=>False:=by
 refine zcE (xs:=(p.mapIdx λ(i:Nat) q=>((i:Int),q)).map λx=>zcA (.int x.1) (.int x.2)) (ls:=[]) (S1:=S) ?_ ?_;rw[<-zf4];rfl;refine W.mono (zan (λi δ T=>(∃u v,δ=[Φ (.ref a),Φ (.ref as),Φ (.int t),Φ l3,Φ (pD p),Φ (.int o),Φ (.int w),u,v])/\Mv [ad] S T/\∃kvs',T.get ad=Φ (.d3 kvs')/\kvs'.length<=kvs.length+i) (λ_ _=>False) _ 0 _ _ ⟨⟨u7,u8,rfl⟩,Mv.refl _ _,kvs,gd,le_refl _⟩ ?_) ?_;rintro i z δ T hz ⟨⟨u,v,rfl⟩,mv,kvs',g,gl⟩;have hi:=(Ζ.mp hz).1;rw[length_map,length_mapIdx]at hi;rw[getElem?_map]at hz;cases hz':(p.mapIdx λ(i:Nat) q=>((i:Int),q))[i]? with
 |none=>rw[hz']at hz;exact nS hz
 |some x=>rw[hz']at hz;cases hz;have B':=B.one mv;refine⟨_,rfl,wS_W _ ?_⟩;left;exists zaF B'.gs rfl;left;exists zkg _ _ _;left;refine zbp (λc=>?_) (λc=>?_);left;exists zaF B'.ga B'.fb;left;exists zar B'.gb;left;exists rfl;left;change rfl;left;rw[zgV];refine zcu ((zfr B' g (by lia)).mono λd U k=>?_);let⟨q1,q2,q3,kv2,q4,q5⟩:=k;left;exact⟨⟨_,_,rfl⟩,mv.trans q2,kv2,q4,by lia⟩;left;exact⟨⟨_,_,rfl⟩,mv,kvs',g,by lia⟩
 rintro f T h';cases f with|rt d=>exact h'.elim| nx δ=>let⟨⟨u,v,rfl⟩,mv,kvs',g,gl⟩:=h';rw[length_map,length_mapIdx]at gl;refine za4 ⟨⟨u,v,rfl⟩,?_,kvs',g,by lia⟩;exact⟨mv.frz,rfl,mv.len,mv.old⟩
end
def zl3{t:Int}{Ls:List Ly}{k:KP}(h:k∈wrL t Ls):∃x∈Ls,x.1.2.1=k.1/\x.1.2.2=k.2.1:=by
 unfold wrL at h;let⟨x,hx,e⟩:=List.mem_filterMap.mp h;refine⟨x,hx,?_⟩;split at e;cases hw:x.2 with
 |none=>rw[hw]at e;exact nS e
 |some w=>rw[hw]at e;cases e;exact⟨rfl,rfl⟩
 exact nS e
section
variable{n a as ab ad:Nat}{m b t:Int}{fs:List (PySem.Str×D)}{lz:List Int}{Ls:List Ly}
def m_wl{S:R.St}{kvs:List (K3×D)}(B:Bk a as ab ad fs (sD m b (pD lz) (.tup (Ls.map lD))) S)(gd:S.get ad=Φ (.d3 kvs))(hl:kvs.length<=100000)(ll:Ls.length<=57)(hp:∀x∈Ls,x.1.2.1.length<=7) :
  W (appW (callF prog (n+2)) 37 [.ref a,.ref as,.int t] S) λd T=>∃l kvs',d=.ref l/\S.len<=l/\Mv [ad] S T/\T.get l=Φ (.lst ((wrL t Ls).map lpD))/\T.get ad=Φ (.d3 kvs')/\kvs'.length<=kvs.length+399:=by
 refine zcM (F:=zaL) rfl rfl ?_;have wl:(wrL t Ls).length<=57:=le_trans (List.length_filterMap_le _ _) ll;have dl:=get_lt gd;refine zax (d:=.ref S.len) (S':=S.push (.lst ((wrL t Ls).map lpD))) (W.eq (wE_W _ ?_)) ?_;left;exists zaF B.gs rfl;left;refine zal ?_;refine W.of (t_wr Ls Ψ) ?_;change by rw[length_map];lia
 left;change by rw[length_map];lia
 left;exact⟨rfl,rfl⟩;let S1:=S.push (.lst ((wrL t Ls).map lpD));have B1:Bk a as ab ad fs (sD m b (pD lz) (.tup (Ls.map lD))) S1:=B.one (Mv.push _ _ _);have g1:S1.get ad=Φ (.d3 kvs):=zah gd;refine zcE (xs:=(wrL t Ls).map lpD) (ls:=[S.len]) (S1:=S1) ?_ ?_;show evL _ (.val J3) _ S1=_;refine W.eq (wL_W _ ?_);left;exists zae _ _;left;exact⟨rfl,rfl⟩;let S2:R.St:={S1 with lk:=[S.len]++S1.lk};have B2:Bk a as ab ad fs (sD m b (pD lz) (.tup (Ls.map lD))) S2:=⟨B1.ga,B1.fb,B1.gs,B1.gb,⟨B1.hf.f,by
  show([S.len]++S1.lk).contains ad=Θ;have:=B1.hf.k;simp![List.contains_eq_mem,decide_eq_false_iff_not,mem_append,mem_singleton,not_or]at this⊢;exact⟨by lia,this⟩⟩,B1.n1,B1.n2,B1.n3⟩
 refine W.mono (zan (λi δ T=>(∃u4 u5 u6 u7 u8,δ=[Φ (.ref a),Φ (.ref as),Φ (.int t),Φ (.ref S.len),u4,u5,u6,u7,u8])/\Mv [ad] S2 T/\∃kvs',T.get ad=Φ (.d3 kvs')/\kvs'.length<=kvs.length+7*i) (λ_ _=>False) _ 0 _ _ ⟨⟨Ψ,Ψ,Ψ,Ψ,Ψ,rfl⟩,Mv.refl _ _,kvs,g1,le_refl _⟩ ?_) ?_;rintro i z δ T hz ⟨⟨u4,u5,u6,u7,u8,rfl⟩,mv,kvs',g,gl⟩;have hi:=(Ζ.mp hz).1;rw[length_map]at hi;rw[getElem?_map]at hz;cases hz':(wrL t Ls)[i]? with
 |none=>rw[hz']at hz;exact nS hz
 |some k=>rw[hz']at hz;cases hz;let⟨x,hx,e1,e2⟩:=zl3 (mem_of_getElem? hz');refine⟨_,rfl,?_⟩;refine(zoh (p:=k.1) (o:=k.2.1) (w:=k.2.2) (B2.one mv) g (by lia) (by rw[<-e1];exact hp x hx)).mono λf U hU=>?_;cases f with|rt d=>exact hU.elim| nx δ=>let⟨⟨u,v,rfl⟩,mv2,kv2,q4,q5⟩:=hU;exact⟨⟨_,_,_,_,_,rfl⟩,mv.trans mv2,kv2,q4,by lia⟩
 rintro f T h';cases f with|rt d=>exact h'.elim| nx δ=>let⟨⟨u4,u5,u6,u7,u8,rfl⟩,mv,kvs',g,gl⟩:=h';rw[length_map]at gl;have mv1:Mv [ad] S1 {T with lk:=S1.lk}:=⟨mv.frz,rfl,mv.len,mv.old⟩;refine wS_W _ ?_;left;exact⟨S.len,kvs',rfl,le_refl _,(Mv.push _ _ _).trans mv1,mv1.old _ _ (by simp;lia) (zae _ _),g,by lia⟩
end
noncomputable abbrev Kp:=Int×List Int
abbrev kD(k:Kp):D:=.tup [.int k.1,pD k.2]
abbrev refs(K0 m:Nat):List D:=(List.range m).map λi=>.ref (K0+i)
def zgu{K0 m i:Nat}(h:i<m):atI (refs K0 m) (i:Int)=Φ (.ref (K0+i)):=by refine zcr ?_;unfold refs;rw[getElem?_map,List.getElem?_range h];rfl
structure Nv(ad N:Nat)(S T:R.St):Prop where
 frz:T.frz=S.frz
 lk:T.lk=S.lk
 len:S.len<=T.len
 old:∀x o,x<N->x≠ad->S.get x=Φ o->T.get x=Φ o
def Nv.refl(ad N:Nat)(S:R.St):Nv ad N S S:=⟨rfl,rfl,le_refl _,λ_ _ _ _ h=>h⟩
def Nv.trans{ad N:Nat}{S T U:R.St}(a:Nv ad N S T)(b:Nv ad N T U):Nv ad N S U:=⟨b.frz.trans a.frz,b.lk.trans a.lk,le_trans a.len b.len,λx o h n e=>b.old x o h n (a.old x o h n e)⟩
def Nv.of{ad N:Nat}{A:List Nat}{S T:R.St}(v:Mv A S T)(h:∀x∈A,x=ad\/N<=x):Nv ad N S T:=⟨v.frz,v.lk,v.len,λx o hx hn e=>v.old x o (λz=>by rcases h x z with q|q<;>lia) e⟩
def Fr.nv{ad N a:Nat}{S T:R.St}(h:Fr S a)(v:Nv ad N S T):Fr T a:=⟨by rw[v.frz];exact h.f,by rw[v.lk];exact h.k⟩
structure Pl(N a as ab ad kl K0 m:Nat)(fs:List (PySem.Str×D))(sd:MO)(ks:Nat->List Kp)(S:R.St):Prop where
 B:Bk a as ab ad fs sd S
 fk:fs.lookup ("keeping":PySem.Str)=Φ (.ref kl)
 fm:fs.lookup ("many":PySem.Str)=Φ (.int m)
 gk:S.get kl=Φ (.lst (refs K0 m))
 gi:∀i,i<m->S.get (K0+i)=Φ (.lst ((ks i).map kD))
 n4:kl≠ad
 n5:∀i,i<m->K0+i≠ad
 l1:a<N
 l2:as<N
 l3:ab<N
 l4:kl<N
 l5:K0+m<=N
 l6:ad<N
 hk:∀x∈S.lk,x<S.len
section
variable{N n a as ab ad kl K0 m:Nat}{b t:Int}{fs:List (PySem.Str×D)}{sd:MO}{ks:Nat->List Kp}
def Pl.nv{S T:R.St}(h:Pl N a as ab ad kl K0 m fs sd ks S)(v:Nv ad N S T):Pl N a as ab ad kl K0 m fs sd ks T:=⟨⟨v.old _ _ h.l1 h.B.n2 h.B.ga,h.B.fb,v.old _ _ h.l2 h.B.n3 h.B.gs,v.old _ _ h.l3 h.B.n1 h.B.gb,h.B.hf.nv v,h.B.n1,h.B.n2,h.B.n3⟩,h.fk,h.fm,v.old _ _ h.l4 h.n4 h.gk,λi hi=>v.old _ _ (by have:=h.l5;lia) (h.n5 i hi) (h.gi i hi),h.n4,h.n5,h.l1,h.l2,h.l3,h.l4,h.l5,h.l6,λx hx=>lt_of_lt_of_le (h.hk x (by rw[<-v.lk];exact hx)) v.len⟩
def Pl.lock{S:R.St}(h:Pl N a as ab ad kl K0 m fs sd ks S){l:Nat}(hl:l<S.len)(hn:l≠ad):Pl N a as ab ad kl K0 m fs sd ks {S with lk:=[l]++S.lk}:=
 ⟨⟨h.B.ga,h.B.fb,h.B.gs,h.B.gb,⟨h.B.hf.f,by
   show([l]++S.lk).contains ad=Θ;have:=h.B.hf.k;simp![List.contains_eq_mem,decide_eq_false_iff_not,mem_append,mem_singleton,not_or]at this⊢;exact⟨λe=>hn e.symm,this⟩⟩,h.B.n1,h.B.n2,h.B.n3⟩,h.fk,h.fm,h.gk,h.gi,h.n4,h.n5,h.l1,h.l2,h.l3,h.l4,h.l5,h.l6,by
   intro x hx;rcases mem_append.mp hx with z|z;rw[mem_singleton]at z;subst z;exact hl;exact h.hk x z⟩
def znY{S:R.St}{M:Int}{lz:List Int}{Y:D}(m0:0<=M)(m7:M<=7)(gs:S.get as=Φ (sD M b (pD lz) Y)):appW (callF prog (n+1)) 40 [.ref as] S=.ok (.ref S.len) (S.push (.lst ((offL M lz).map .int))):=by
 refine zcs (F:=zbT) rfl rfl ?_;left;exists zaF gs rfl;left;change by lia
 left;refine zal ?_;refine W.of (za9 (λd=>match d with|.int o=>!decide (o∈lz)|_=>Θ) (λd=>d) _ Ψ (λz hz=>?_) (λz hz _=>?_)) ?_;let⟨o,_,rfl⟩:=mem_map.mp hz;refine W.eq (wT_W _ ?_);left;exists zaF gs rfl;left;exists zdC S (o:Int) lz;left;exact⟨rfl,rfl⟩;rfl;have hx:((List.range M.toNat).map λ(k:Nat)=>D.int (k:Int))=(rg M).map .int:=by unfold rg;rw[map_map];rfl
 rw[hx,zbb (λo=>!decide (o∈lz)) .int _ _ (λo=>rfl) (λo=>rfl)];have hl:(offL M lz).length<=7:=by have:=zdB M.toNat lz;rw[Int.toNat_of_nonneg m0]at this;lia
 unfold offL at hl⊢;change by rw[length_map];lia
 left;change by rw[length_map];lia
 left;exact⟨rfl,rfl⟩
abbrev WrOk(m:Nat)(k:KP):Prop:=1<=k.1.length/\k.1.length<=9/\0<=k.2.1/\k.2.1<m
abbrev zo3:CS:=.ifS (.cmp .Eq (.bi .len #[J6]) (.bin .Sub J2 U1)) (.expr (.meth "stamp" [(0,29)] (.fld J0 "book") #[J4,J6,J5]) (.asg 7 (.bin .Add J6 (.tup #[J4])) (.expr (.ext J3 (.comp 1 [7,5] [0] (.rng1 (.fld J0 "many")) (.cmp .NotIn J0 J1) (.tup #[J1,J0,J2]))) .nil))) .nil .nil
def zog{S:R.St}{l3:Nat}{h w M:Int}{p:List Int}{u7:Option D}{kvs:List (K3×D)}{Ws:List KP}(hM:M=m)(m7:m<=7)(P:Pl N a as ab ad kl K0 m fs sd ks S)(gd:S.get ad=Φ (.d3 kvs))(hl:kvs.length<=1000000)(g3:S.get l3=Φ (.lst (Ws.map lpD)))(h3:N<=l3)(f3:Fr S l3)(wl:Ws.length<=1000)(wo:∀k∈Ws,WrOk m k)(t8:t<=8) :
  W (exS (callF prog (n+1)) zo3 [Φ (.ref a),Φ (.ref as),Φ (.int t),Φ (.ref l3),Φ (.int h),Φ (.int w),Φ (pD p),u7] S) λf T=>match f with|.nx δ=>(∃u,δ=[Φ (.ref a),Φ (.ref as),Φ (.int t),Φ (.ref l3),Φ (.int h),Φ (.int w),Φ (pD p),u])/\Nv ad N S T/\(∃kvs',T.get ad=Φ (.d3 kvs')/\kvs'.length<=kvs.length+1)/\∃Vs:List KP,T.get l3=Φ (.lst (Vs.map lpD))/\Vs.length<=Ws.length+7/\∀k∈Vs,WrOk m k|.rt _=>False:=by
 refine wS_W _ ?_;left;refine zbp (λc=>?_) (λc=>?_);rw[length_map]at c;left;exists zaF P.B.ga P.B.fb;left;exists zar P.B.gb;left;exists rfl;left;change rfl;left;refine zcu ((zfr (n:=n) P.B gd (by lia)).mono λd U y=>?_);let⟨q1,q2,q3,kv2,q4,q5⟩:=y;have v1:Nv ad N S U:=Nv.of q2 (by simp);have P1:=P.nv v1;have g31:U.get l3=Φ (.lst (Ws.map lpD)):=q2.old _ _ (by have:=P.l6;simp;lia) g3;left;right;left;change by rw[length_map];simp;lia
 left;exists g31;left;exists zaF P1.B.ga P1.fm;left;change by lia
 left;rw[zgL];refine zal ?_;refine W.of (za9 (λd=>match d with|.int o=>!decide (o∈p++[h])|_=>Θ) (λd=>match d with|.int o=>lpD (p++[h],o,w)|d=>d) _ Ψ (λz hz=>?_) (λz hz _=>?_)) ?_;let⟨o,_,rfl⟩:=mem_map.mp hz;refine W.eq (wT_W _ ?_);left;exists zdC U (o:Int) (p++[h]);left;exact⟨rfl,rfl⟩;let⟨o,_,rfl⟩:=mem_map.mp hz;refine W.eq (wE_W _ ?_);left;right;left;exact⟨rfl,rfl⟩;have hx:((List.range (m:Int).toNat).map λ(k:Nat)=>D.int (k:Int))=(rg m).map .int:=by unfold rg;rw[map_map];rfl
 rw[hx,zbb (λo=>!decide (o∈p++[h])) (λo=>lpD (p++[h],o,w)) _ _ (λo=>rfl) (λo=>rfl)];have ol:=zdB m (p++[h]);have e4:(((rg m).filter λo=>!decide (o∈p++[h])).map λo=>lpD (p++[h],o,w))=((offL m (p++[h])).map λo=>(p++[h],o,w)).map lpD:=by unfold offL;rw[map_map];rfl
 rw[e4];change by rw[length_map,length_map];lia
 left;exists g31;left;change by rw[length_append,length_map,length_map,length_map];lia
 left;let⟨V,e5,e6,e7⟩:=zdz (u:=.lst (Ws.map lpD++((offL m (p++[h])).map λo=>(p++[h],o,w)).map lpD)) (f3.nv v1) g31;exists e5;left;refine⟨⟨_,rfl⟩,v1.trans (Nv.of e6 (by simp;lia)),⟨kv2,e6.old _ _ (by have:=P.l6;simp;lia) q4,q5⟩,Ws++(offL m (p++[h])).map λo=>(p++[h],o,w),by rw[e7,map_append],by rw[length_append,length_map];lia,?_⟩;intro k hk;rcases mem_append.mp hk with z|z;exact wo k z;let⟨o,ho,rfl⟩:=mem_map.mp z;have:=zeY ho;refine⟨by simp,?_,this.1.1,this.1.2⟩;simp;lia;left;exact⟨⟨_,rfl⟩,Nv.refl _ _ _,⟨kvs,gd,by lia⟩,Ws,g3,by lia,wo⟩
end
abbrev zo2:CS:=.forS [5,6] (.val (.ix (.fld J0 "keeping") J4)) zo3 .nil
def Fr.lock{S:R.St}{a l:Nat}(h:Fr S a)(hn:l≠a):Fr {S with lk:=[l]++S.lk} a:=⟨h.f,by
 show([l]++S.lk).contains a=Θ;have:=h.k;simp![List.contains_eq_mem,decide_eq_false_iff_not,mem_append,mem_singleton,not_or]at this⊢;exact⟨λe=>hn e.symm,this⟩⟩
def Nv.unlock{ad N:Nat}{S T:R.St}{l:List Nat}(v:Nv ad N {S with lk:=l} T):Nv ad N S {T with lk:=S.lk}:=⟨v.frz,rfl,v.len,v.old⟩
section
variable{N n a as ab ad kl K0 m:Nat}{b t:Int}{fs:List (PySem.Str×D)}{sd:MO}{ks:Nat->List Kp}
def zlB{S:R.St}{l3 i:Nat}{u5 u6 u7:Option D}{kvs:List (K3×D)}{Ws:List KP}(hi:i<m)(m7:m<=7)(P:Pl N a as ab ad kl K0 m fs sd ks S)(k2:∀i,i<m->(ks i).length<=2)(gd:S.get ad=Φ (.d3 kvs))(hl:kvs.length<=999000)(g3:S.get l3=Φ (.lst (Ws.map lpD)))(h3:N<=l3)(f3:Fr S l3)(wl:Ws.length<=900)(wo:∀k∈Ws,WrOk m k)(t8:t<=8) :
  W (exS (callF prog (n+1)) zo2 [Φ (.ref a),Φ (.ref as),Φ (.int t),Φ (.ref l3),Φ (.int (i:Nat)),u5,u6,u7] S) λf T=>match f with|.nx δ=>(∃u5 u6 u7,δ=[Φ (.ref a),Φ (.ref as),Φ (.int t),Φ (.ref l3),Φ (.int (i:Nat)),u5,u6,u7])/\Nv ad N S T/\(∃kvs',T.get ad=Φ (.d3 kvs')/\kvs'.length<=kvs.length+2)/\∃Vs:List KP,T.get l3=Φ (.lst (Vs.map lpD))/\Vs.length<=Ws.length+14/\∀k∈Vs,WrOk m k|.rt _=>False:=by
 have l5:=P.l5;have k2i:=k2 i hi;refine zcE (xs:=(ks i).map kD) (ls:=[K0+i]) (S1:=S) ?_ ?_;refine W.eq (wL_W _ ?_);left;exists zaF P.B.ga P.fk;left;exists P.gk;left;exists zgu hi;left;exists P.gi i hi;left;exact⟨rfl,rfl⟩;have PL:Pl N a as ab ad kl K0 m fs sd ks {S with lk:=[K0+i]++S.lk}:=P.lock (get_lt (P.gi i hi)) (P.n5 i hi);have fL:Fr {S with lk:=[K0+i]++S.lk} l3:=f3.lock (by lia);refine W.mono (zan (λj δ T=>(∃u5 u6 u7,δ=[Φ (.ref a),Φ (.ref as),Φ (.int t),Φ (.ref l3),Φ (.int (i:Nat)),u5,u6,u7])/\Nv ad N {S with lk:=[K0+i]++S.lk} T/\(∃kvs',T.get ad=Φ (.d3 kvs')/\kvs'.length<=kvs.length+j)/\∃Vs:List KP,T.get l3=Φ (.lst (Vs.map lpD))/\Vs.length<=Ws.length+7*j/\∀k∈Vs,WrOk m k) (λ_ _=>False) _ 0 _ _ ⟨⟨u5,u6,u7,rfl⟩,Nv.refl _ _ _,⟨kvs,gd,le_refl _⟩,Ws,g3,le_refl _,wo⟩ ?_) ?_;rintro j z δ T hz ⟨⟨u5,u6,u7,rfl⟩,v,⟨kvs',g,gl⟩,Vs,gv,vl,vo⟩;have hj:=(Ζ.mp hz).1;rw[length_map]at hj;rw[getElem?_map]at hz;cases hz':(ks i)[j]? with
 |none=>rw[hz']at hz;exact nS hz
 |some k=>rw[hz']at hz;cases hz;refine⟨_,rfl,(zog (M:=m) (w:=k.1) (p:=k.2) rfl m7 (PL.nv v) g (by lia) gv h3 (fL.nv v) (by lia) vo t8).mono λf U hU=>?_⟩;cases f with|rt d=>exact hU.elim| nx δ=>let⟨⟨u,rfl⟩,v2,⟨kv2,q4,q5⟩,V2,q6,q7,q8⟩:=hU;exact⟨⟨_,_,_,rfl⟩,v.trans v2,⟨kv2,q4,by lia⟩,V2,q6,by lia,q8⟩
 rintro f T h';cases f with|rt d=>exact h'.elim| nx δ=>let⟨⟨u5,u6,u7,rfl⟩,v,⟨kvs',g,gl⟩,Vs,gv,vl,vo⟩:=h';rw[length_map]at gl vl;exact za4 ⟨⟨_,_,_,rfl⟩,v.unlock,⟨kvs',g,by lia⟩,Vs,gv,by lia,vo⟩
def m_wt{S:R.St}{lz:List Int}{Y:D}{kvs:List (K3×D)}(m7:m<=7)(P:Pl N a as ab ad kl K0 m fs (sD m b (pD lz) Y) ks S)(hN:N<=S.len)(hF:S.frz.length<=N)(k2:∀i,i<m->(ks i).length<=2)(gd:S.get ad=Φ (.d3 kvs))(hl:kvs.length<=100000)(t8:t<=8) :
  W (appW (callF prog (n+2)) 38 [.ref a,.ref as,.int t] S) λd T=>∃(l:Nat) (kvs':List (K3×D)) (Ws:List KP),d=.ref l/\S.len<=l/\Nv ad N S T/\T.get l=Φ (.lst (Ws.map lpD))/\T.get ad=Φ (.d3 kvs')/\kvs'.length<=kvs.length+14/\Ws.length<=98/\∀k∈Ws,WrOk m k:=by
 refine zcM (F:=zaK) rfl rfl ?_;let S1:=S.push (.lst []);refine zax (d:=.ref S.len) (S':=S1) rfl ?_;have v1:Nv ad N S S1:=Nv.of (Mv.push [] S _) (by simp);have P1:=P.nv v1;let S2:=S1.push (.lst ((offL m lz).map .int));have v2:Nv ad N S1 S2:=Nv.of (Mv.push [] S1 _) (by simp);have P2:=P1.nv v2;have dl:=P.l6;have ln1:S1.len=S.len+1:=plen _ _;have ln2:S2.len=S1.len+1:=plen _ _;refine zcE (xs:=(offL m lz).map .int) (ls:=[S1.len]) (S1:=S2) ?_ ?_;refine W.eq (wL_W _ ?_);left;exists zar P1.B.gs;left;exists rfl;left;change rfl;left;specialize znY (n:=n) (M:=m) (by lia) (by lia) P1.B.gs;left;exists zae _ _;left;exact⟨rfl,rfl⟩;have PL:Pl N a as ab ad kl K0 m fs (sD m b (pD lz) Y) ks {S2 with lk:=[S1.len]++S2.lk}:=P2.lock (by lia) (by lia);have f3:Fr S2 S.len:=⟨by show S.frz.length<=_;lia,by
  show S.lk.contains S.len=Θ;exact zlD (T:=S) P.hk (le_refl _)⟩
 have fL:Fr {S2 with lk:=[S1.len]++S2.lk} S.len:=f3.lock (by lia);have g3:S2.get S.len=Φ (.lst (([]:List KP).map lpD)):=zah (zae _ _);refine W.mono (zan (λj δ T=>(∃u4 u5 u6 u7,δ=[Φ (.ref a),Φ (.ref as),Φ (.int t),Φ (.ref S.len),u4,u5,u6,u7])/\Nv ad N {S2 with lk:=[S1.len]++S2.lk} T/\(∃kvs',T.get ad=Φ (.d3 kvs')/\kvs'.length<=kvs.length+2*j)/\∃Vs:List KP,T.get S.len=Φ (.lst (Vs.map lpD))/\Vs.length<=14*j/\∀k∈Vs,WrOk m k) (λ_ _=>False) _ 0 _ _ ⟨⟨Ψ,Ψ,Ψ,Ψ,rfl⟩,Nv.refl _ _ _,⟨kvs,zah (zah gd),le_refl _⟩,[],g3,le_refl _,by simp⟩ ?_) ?_;rintro j z δ T hz ⟨⟨u4,u5,u6,u7,rfl⟩,v,⟨kvs',g,gl⟩,Vs,gv,vl,vo⟩;have hj:=(Ζ.mp hz).1;rw[length_map]at hj;have ol:=zdB m lz;rw[getElem?_map]at hz;cases hz':(offL m lz)[j]? with
 |none=>rw[hz']at hz;exact nS hz
 |some k=>rw[hz']at hz;cases hz;have ok:=(zeY (mem_of_getElem? hz')).1;obtain⟨i,rfl⟩:∃i:Nat,k=i:=⟨k.toNat,by lia⟩;refine⟨_,rfl,(zlB (i:=i) (by lia) m7 (PL.nv v) k2 g (by lia) gv hN (fL.nv v) (by lia) vo t8).mono λf U hU=>?_⟩;cases f with|rt d=>exact hU.elim| nx δ=>let⟨⟨_,_,_,rfl⟩,v2,⟨kv2,q4,q5⟩,V2,q6,q7,q8⟩:=hU;exact⟨⟨_,_,_,_,rfl⟩,v.trans v2,⟨kv2,q4,by lia⟩,V2,q6,by lia,q8⟩
 rintro f T h';cases f with|rt d=>exact h'.elim| nx δ=>let⟨⟨u4,u5,u6,u7,rfl⟩,v,⟨kvs',g,gl⟩,Vs,gv,vl,vo⟩:=h';have ol:=zdB m lz;rw[length_map]at gl vl;refine wS_W _ ?_;left;exact⟨S.len,kvs',Vs,rfl,le_refl _,(v1.trans v2).trans v.unlock,gv,g,by lia,by lia,vo⟩
end
structure Lt where
 t:Int
 p:List Int
 to:Int
 w:Int
 g:Bool
abbrev seD(x:Lt):D:=.tup [.int x.t,pD x.p,.int x.to,.int x.w,.bl x.g]
abbrev hits(s:Int)(x:Lt):Bool:=x.g&&(decide ((x.p.length:Int)=x.t)&&decide (x.p.head?=Φ s))
abbrev kpZ(acc:List Kp)(w:Int)(p:List Int):List Kp:=if acc.length<2/\w∉acc.map (·.1) then acc++[(w,p)] else acc
abbrev dueL(s w0:Int)(L:List Lt)(h:Nat):List Kp:=L.foldl (λacc x=>if x.to=(h:Int)/\hits s x=Δ then kpZ acc x.w x.p else acc) (if(h:Int)=s then [(w0,[])] else [])
def zdT(s w0:Int)(L:List Lt)(x:Lt)(h:Nat):dueL s w0 (L++[x]) h=if x.to=(h:Int)/\hits s x=Δ then kpZ (dueL s w0 L h) x.w x.p else dueL s w0 L h:=by unfold dueL;rw[List.foldl_append];rfl
def zoa{acc:List Kp}{w:Int}{p:List Int}(h:acc.length<=2):(kpZ acc w p).length<=2:=by unfold kpZ;split;rename_i q;rw[length_append];have:=q.1;simp;lia;exact h
def zcF(s w0:Int)(h:Nat)(L:List Lt):(dueL s w0 L h).length<=2:=by
 unfold dueL;suffices ∀(L:List Lt)(acc:List Kp),acc.length<=2->(L.foldl (λacc x=>if x.to=(h:Int)/\hits s x=Δ then kpZ acc x.w x.p else acc) acc).length<=2 by refine this L _ ?_;split<;>simp
 intro L;induction L with|nil=>intro acc h;exact h| cons x L ih=>intro acc ha;rw[List.foldl_cons];refine ih _ ?_;split;exact zoa ha;exact ha
abbrev sgF(m:Nat)(s:Int)(K0:Nat):List (PySem.Str×D):=[("many",.int m),("sender",.int s),("keeping",.ref (K0+m)),("book",.ref (K0+m+1)),("sent",.ref (K0+m+3))]
structure Sy(as a K0 m:Nat)(sd:MO)(s w0:Int)(kvs:List (K3×D))(L:List Lt)(S:R.St):Prop where
 o1:as<a
 o2:a<K0
 ga:S.get a=Φ (.ins 1 (sgF m s K0))
 gs:S.get as=Φ sd
 gK:S.get (K0+m)=Φ (.lst (refs K0 m))
 gB:S.get (K0+m+1)=Φ (bkD (K0+m+2))
 gD:S.get (K0+m+2)=Φ (.d3 kvs)
 gL:S.get (K0+m+3)=Φ (.lst (L.map seD))
 gi:∀i,i<m->S.get (K0+i)=Φ (.lst ((dueL s w0 L i).map kD))
 fr:∀x,K0<=x->Fr S x\/K0+m+3<x
 hk:∀x∈S.lk,x<S.len
 fz:S.frz.length<=K0
section
variable{n as a K0 m:Nat}{sd:MO}{s w0 t:Int}{kvs:List (K3×D)}{L:List Lt}{S:R.St}
def Sy.f(h:Sy as a K0 m sd s w0 kvs L S){x:Nat}(h1:K0<=x)(h2:x<=K0+m+3):Fr S x:=by rcases h.fr x h1 with q|q;exact q;lia
def Sy.pl(h:Sy as a K0 m sd s w0 kvs L S):Pl (K0+m+4) a as (K0+m+1) (K0+m+2) (K0+m) K0 m (sgF m s K0) sd (dueL s w0 L) S:=by have:=h.o1;have:=h.o2;exact⟨⟨h.ga,rfl,h.gs,h.gB,h.f (by lia) (by lia),by lia,by lia,by lia⟩,rfl,rfl,h.gK,h.gi,by lia,λi hi=>by lia,by lia,by lia,by lia,by lia,by lia,by lia,h.hk⟩
def Sy.nv{T:R.St}{kvs':List (K3×D)}(h:Sy as a K0 m sd s w0 kvs L S)(v:Nv (K0+m+2) (K0+m+4) S T)(g:T.get (K0+m+2)=Φ (.d3 kvs')):Sy as a K0 m sd s w0 kvs' L T:=by have o1:=h.o1;have o2:=h.o2;exact⟨o1,o2,v.old _ _ (by lia) (by lia) h.ga,v.old _ _ (by lia) (by lia) h.gs,v.old _ _ (by lia) (by lia) h.gK,v.old _ _ (by lia) (by lia) h.gB,g,v.old _ _ (by lia) (by lia) h.gL,λi hi=>v.old _ _ (by lia) (by lia) (h.gi i hi),λx hx=>(h.fr x hx).imp (λq=>q.nv v) id,λx hx=>lt_of_lt_of_le (h.hk x (by rw[<-v.lk];exact hx)) v.len,by rw[v.frz];exact h.fz⟩
def Sy.up{A:List Nat}{T:R.St}{L':List Lt}(h:Sy as a K0 m sd s w0 kvs L S)(v:Mv A S T)(hA:∀x∈A,x=K0+m+3\/(K0<=x/\x<K0+m))(g1:T.get (K0+m+3)=Φ (.lst (L'.map seD)))(g2:∀i,i<m->T.get (K0+i)=Φ (.lst ((dueL s w0 L' i).map kD))):Sy as a K0 m sd s w0 kvs L' T:=by have o1:=h.o1;have o2:=h.o2;have k:∀x o,(x<K0\/x=K0+m\/x=K0+m+1\/x=K0+m+2)->S.get x=Φ o->T.get x=Φ o:=λx o hx e=>v.old _ _ (λz=>by rcases hA x z with q|q<;>lia) e;exact⟨o1,o2,k _ _ (by lia) h.ga,k _ _ (by lia) h.gs,k _ _ (by lia) h.gK,k _ _ (by lia) h.gB,k _ _ (by lia) h.gD,g1,g2,λx hx=>(h.fr x hx).imp (λq=>q.mv v) id,λx hx=>lt_of_lt_of_le (h.hk x (by rw[<-v.lk];exact hx)) v.len,by rw[v.frz];exact h.fz⟩
def Sy.push(h:Sy as a K0 m sd s w0 kvs L S)(o:MO):Sy as a K0 m sd s w0 kvs L (S.push o):=h.up (Mv.push [] S o) (by simp) (zah h.gL) λi hi=>zah (h.gi i hi)
def Sy.lk{l:List Nat}(h:Sy as a K0 m sd s w0 kvs L S)(hl:∀x∈l,x<S.len)(hf:∀x,K0<=x->x<=K0+m+3->l.contains x=Θ):Sy as a K0 m sd s w0 kvs L {S with lk:=l}:=⟨h.o1,h.o2,h.ga,h.gs,h.gK,h.gB,h.gD,h.gL,h.gi,λx hx=>by by_cases c:x<=K0+m+3;exact .inl ⟨le_trans h.fz hx,hf x hx c⟩;exact .inr (by lia),hl,h.fz⟩
def zgZ{cf:CF}{T:R.St}:∀(ks:List Kp)(u:Option D),zaw [0] (evT cf (.tst (.con (.bl Δ)))) (evE cf (.ix J0 U0)) (ks.map kD) [u] T=.ok ((ks.map (·.1)).map .int) T
 | [],_=>rfl| k::ks,u=>by have ih:=zgZ (cf:=cf) (T:=T) ks (Φ (kD k));rw[ϊ];unfold zaw;show Out.bind (.ok Δ T) _=_;rw[zaz,if_pos rfl];show Out.bind (.ok (D.int k.1) T) _=_;rw[zaz];show Out.bind (zaw [0] _ _ (ks.map kD) [Φ (kD k)] T) _=_;rw[ih];rfl
def zqu{i:Nat}{w:Int}{p:List Int}{ks:List Kp}(ga:S.get a=Φ (.ins 1 (sgF m s K0)))(gK:S.get (K0+m)=Φ (.lst (refs K0 m)))(hf:Fr S (K0+i))(hi:i<m)(g:S.get (K0+i)=Φ (.lst (ks.map kD)))(k2:ks.length<=2) :
  W (appW (callF prog (n+1)) 33 [.ref a,.int (i:Nat),.int w,pD p] S) λd T=>d=.non/\Mv [K0+i] S T/\T.get (K0+i)=Φ (.lst ((kpZ ks w p).map kD)):=by
 refine zcM (F:=zcL) rfl rfl (wS_W _ ?_);have kl:(ks.map (·.1)).length<=2:=by rw[length_map];exact k2
 left;exists zaF ga rfl;left;exists gK;left;exists zgu hi;left;exists g;left;refine zbp (λc=>?_) (λc=>?_);rw[length_map]at c;left;exists g;left;refine zal ?_;refine W.of (zgZ ks Ψ) ?_;change by rw[length_map];lia
 left;change by rw[length_map];lia
 left;exists zfI (zae _ _) w;left;refine ziK (λd=>?_) (λd=>?_);have nw:w∉ks.map (·.1):=by simpa using d
 have e0:kpZ ks w p=ks++[(w,p)]:=by unfold kpZ;rw[if_pos ⟨by lia,nw⟩]
 have gp:=zah (o:=.lst ((ks.map (·.1)).map .int)) g;left;exists gp;left;right;left;exists gp;left;change by rw[length_append,length_map];simp;lia
 left;let⟨V,e5,e6,e7⟩:=zdz (T:=S.push (.lst ((ks.map (·.1)).map .int))) (u:=.lst (ks.map kD++[.tup [.int w,pD p]])) (hf.mv (Mv.push [] S _)) gp;exists e5;left;refine⟨rfl,(Mv.push _ _ _).trans e6,?_⟩;rw[e7,e0,map_append];rfl;have nw:w∈ks.map (·.1):=by simpa using d
 have e0:kpZ ks w p=ks:=by unfold kpZ;rw[if_neg λz=>z.2 nw]
 left;refine⟨rfl,Mv.push _ _ _,?_⟩;rw[e0];exact zah g;rw[length_map]at c;have e0:kpZ ks w p=ks:=by unfold kpZ;rw[if_neg λz=>c (by have:=z.1;lia)]
 left;refine⟨rfl,Mv.refl _ _,?_⟩;rw[e0];exact g
end
abbrev zrF:CS:=.asg 7 (.meth "genuine" [(0,27)] (.fld J0 "book") #[J4,J6]) (.expr (.mt .append (.fld J0 "sent") #[.tup #[J2,J4,J5,J6,J7]]) (.ifS (.and (.tst J7) (.and (.cmp .Eq (.bi .len #[J4]) J2) (.cmp .Eq (.ix J4 U0) (.fld J0 "sender")))) (.expr (.meth "keep" [(1,33)] J0 #[J5,J6,J4]) .nil) .nil .nil))
structure LtOk(m:Nat)(x:Lt):Prop where
 p1:1<=x.p.length
 p9:x.p.length<=9
 o0:0<=x.to
 om:x.to<m
structure Kt(S T:R.St):Prop where
 frz:T.frz=S.frz
 lk:T.lk=S.lk
 len:S.len<=T.len
def Kt.refl(S:R.St):Kt S S:=⟨rfl,rfl,le_refl _⟩
def Kt.trans{S T U:R.St}(a:Kt S T)(b:Kt T U):Kt S U:=⟨b.frz.trans a.frz,b.lk.trans a.lk,le_trans a.len b.len⟩
def Mv.kt{A:List Nat}{S T:R.St}(v:Mv A S T):Kt S T:=⟨v.frz,v.lk,v.len⟩
def Nv.kt{a N:Nat}{S T:R.St}(v:Nv a N S T):Kt S T:=⟨v.frz,v.lk,v.len⟩
section
variable{n as a K0 m:Nat}{sd:MO}{s w0 t:Int}{kvs:List (K3×D)}{L:List Lt}{S:R.St}
def zlJ{i:Nat}{p:List Int}{w:Int}{u3 u7:Option D}(h:Sy as a K0 m sd s w0 kvs L S)(hi:i<m)(p1:1<=p.length)(p9:p.length<=9)(ll:L.length<=1000000) :
  W (exS (callF prog (n+2)) zrF [Φ (.ref a),Φ (.ref as),Φ (.int t),u3,Φ (pD p),Φ (.int (i:Nat)),Φ (.int w),u7] S) λf T=>match f with|.nx δ=>(∃u,δ=[Φ (.ref a),Φ (.ref as),Φ (.int t),u3,Φ (pD p),Φ (.int (i:Nat)),Φ (.int w),u])/\Kt S T/\∃x:Lt,LtOk m x/\Sy as a K0 m sd s w0 kvs (L++[x]) T|.rt _=>False:=by
 obtain⟨p0,ps,rfl⟩:∃p0 ps,p=p0::ps:=by cases p with|nil=>simp at p1|cons a b=>exact⟨a,b,rfl⟩
 let⟨g,hg⟩:=zrX (n:=n) (w:=w) (p:=p0::ps) h.gB h.gD (by lia);let x:Lt:=⟨t,p0::ps,i,w,g⟩;have xo:LtOk m x:=⟨p1,p9,by show(0:Int)<=i;lia,by show(i:Int)<m;lia⟩;have o1:=h.o1;have o2:=h.o2;refine wS_W _ ?_;left;exists zaF h.ga rfl;left;exists zar h.gB;left;exists rfl;left;change rfl;left;specialize hg;left;exists zaF h.ga rfl;left;exists h.gL;left;right;left;exists h.gL;left;change by rw[length_append,length_map];simp;lia
 left;let⟨V,e5,e6,e7⟩:=zdz (u:=.lst (L.map seD++[.tup [.int t,pD (p0::ps),.int i,.int w,.bl g]])) (h.f (x:=K0+m+3) (by lia) (by lia)) h.gL;exists e5;left;have gL':V.get (K0+m+3)=Φ (.lst ((L++[x]).map seD)):=by rw[e7,map_append];rfl
 have gi':∀j,j<m->V.get (K0+j)=Φ (.lst ((dueL s w0 L j).map kD)):=λj hj=>e6.old _ _ (by simp;lia) (h.gi j hj);have ga':V.get a=Φ (.ins 1 (sgF m s K0)):=e6.old _ _ (by simp;lia) h.ga;have no:hits s x=Θ->(∃u,[Φ (.ref a),Φ (.ref as),Φ (.int t),u3,Φ (pD (p0::ps)),Φ (.int (i:Nat)),Φ (.int w),Φ (.bl g)]=[Φ (.ref a),Φ (.ref as),Φ (.int t),u3,Φ (pD (p0::ps)),Φ (.int (i:Nat)),Φ (.int w),u])/\Kt S V/\∃x:Lt,LtOk m x/\Sy as a K0 m sd s w0 kvs (L++[x]) V:=by intro hx;refine⟨⟨_,rfl⟩,e6.kt,x,xo,h.up e6 (by simp) gL' λj hj=>?_⟩;rw[zdT,if_neg (by rw[hx];simp)];exact gi' j hj
 refine ziK (λc=>?_) (λc=>?_);left;refine zbp (λd=>?_) (λd=>?_);left;exists(atI_0:atI (D.int p0::ps.map .int) 0=Φ (.int p0));left;exists zaF ga' rfl;left;refine zbp (λe=>?_) (λe=>?_);have hx:hits s x=Δ:=by unfold hits;rw[show x.g=Δ from c,decide_eq_true (show(x.p.length:Int)=x.t by rw[length_map]at d;exact d),decide_eq_true (show x.p.head?=Φ s by show Φ p0=Φ s;rw[show p0=s from e])];rfl
 left;exists zar ga';left;exists rfl;left;change rfl;left;refine zcu ((zqu (n:=n+1) (s:=s) ga' (e6.old _ _ (by simp) h.gK) (Fr.mv (h.f (by lia) (by lia)) e6) hi (gi' i hi) (zcF s w0 i L)).mono λd U k=>?_);let⟨q1,q2,q3⟩:=k;have v2:Mv [K0+m+3,K0+i] S U:=(e6.up (by simp)).trans (q2.up (by simp));left;refine⟨⟨_,rfl⟩,v2.kt,x,xo,h.up v2 (by simp;lia) (q2.old _ _ (by simp;lia) gL') λj hj=>?_⟩;rw[zdT];by_cases c2:j=i;subst c2;rw[if_pos ⟨rfl,hx⟩];exact q3;rw[if_neg (λz=>c2 (by have:(i:Int)=(j:Int):=z.1;lia))];exact q2.old _ _ (by simp;lia) (gi' j hj);have hx:hits s x=Θ:=by unfold hits;rw[decide_eq_false (show ¬x.p.head?=Φ s from λz=>e (by cases z;rfl))];simp
 left;exact no hx;have hx:hits s x=Θ:=by unfold hits;rw[decide_eq_false (show ¬(x.p.length:Int)=x.t from λz=>d (by rw[length_map];exact z))];simp
 left;exact no hx;have hx:hits s x=Θ:=by unfold hits;rw[show x.g=Θ from c];rfl
 left;exact no hx
end
def zqy(k:KP):lpOf (lpD k)=Φ k:=by unfold lpOf lpD;dsimp only;rw[zba];rfl
def zjM:∀ks:List KP,(ks.map lpD).mapM lpOf=Φ ks
 | []=>rfl|k::ks=>by rw[ϊ,mapM_cons,zqy,zjM ks];rfl
def zqx{S:R.St}{l:Nat}{ks:List KP}(h:S.get l=Φ (.lst (ks.map lpD))):zjP S (.ref l)=Φ ks:=by unfold zjP;dsimp only;rw[h];exact zjM ks
def ziZ(ks:List KP):(zdm ks).length<=ks.length:=List.Nodup.length_le_of_subset (zjK (zbE ks)) λz hz=>(zcv z ks).mp hz
section
variable{n as a K0 m:Nat}{b s w0 t:Int}{lz:List Int}{Ls:List Ly}{kvs:List (K3×D)}{L:List Lt}{S:R.St}
def Sy.len(h:Sy as a K0 m (sD m b (pD lz) (.tup (Ls.map lD))) s w0 kvs L S):K0+m+3<S.len:=get_lt h.gL
def zn1(m7:m<=7)(h:Sy as a K0 m (sD m b (pD lz) (.tup (Ls.map lD))) s w0 kvs L S)(lo:∀x∈Ls,LyOk m x)(ln:Ls.length<=57)(t8:t<=8)(hl:kvs.length<=50000)(ll:L.length<=50000)(Lo:∀x∈L,LtOk m x) :
  W (appW (callF prog (n+3)) 36 [.ref a,.ref as,.int t] S) λd T=>d=.non/\Kt S T/\∃kvs' L',Sy as a K0 m (sD m b (pD lz) (.tup (Ls.map lD))) s w0 kvs' L' T/\kvs'.length<=kvs.length+413/\L'.length<=L.length+155/\∀x∈L',LtOk m x:=by
 refine zcM (F:=zbc) rfl rfl (wS_W _ ?_);have sl:=h.len;left;exists zar h.ga;left;exists rfl;left;change rfl;left;refine zcu ((m_wt (n:=n) m7 h.pl (by lia) (by have:=h.fz;lia) (λi hi=>zcF s w0 i L) h.gD (by lia) t8).mono λd U q=>?_);let⟨l,kv1,Ws,q1,q2,q3,q4,q5,q6,q7,q8⟩:=q;subst q1;have h1:=h.nv q3 q5;left;exists zar h1.ga;left;exists rfl;left;change rfl;left;have wlL:(wrL t Ls).length<=57:=le_trans (List.length_filterMap_le _ _) ln;refine zcu ((m_wl (n:=n) h1.pl.B h1.gD (by lia) ln (λx hx=>(lo x hx).p7)).mono λd V v=>?_);let⟨l',kv2,r1,r2,r3,r4,r5,r6⟩:=v;subst r1;have h2:=h1.nv (Nv.of r3 (by simp)) r5;have dl:=h1.len;have g4:V.get l=Φ (.lst (Ws.map lpD)):=r3.old _ _ (by simp;lia) q4;left;exists g4;left;exists r4;left;change by rw[length_append,length_map,length_map];lia
 left;rw[<-map_append];exists zqx (zae _ _);left;change by rw[length_append];lia
 left;have sl2:=ziZ (Ws++wrL t Ls);rw[length_append]at sl2;change by rw[length_map];lia
 left;exists zae _ _;left;refine zal ?_;let V1:=V.push (.lst ((Ws++wrL t Ls).map lpD));let V2:=V1.push (.lst ((zdm (Ws++wrL t Ls)).map lpD));have h3:Sy as a K0 m (sD m b (pD lz) (.tup (Ls.map lD))) s w0 kv2 L V2:=(h2.push _).push _;have ln1:V1.len=V.len+1:=plen _ _;have ln2:V2.len=V1.len+1:=plen _ _;have dl2:=h2.len;have lkE:lkOf V2 (.ref V1.len)=[V1.len]:=rfl;have h4:Sy as a K0 m (sD m b (pD lz) (.tup (Ls.map lD))) s w0 kv2 L {V2 with lk:=[V1.len]++V2.lk}:=h3.lk (by
  intro x hx;rcases mem_append.mp hx with z|z;rw[mem_singleton]at z;lia;exact h3.hk x z) (by intro x h5 h6;have:=(h3.f h5 h6).k;simp![List.contains_eq_mem,decide_eq_false_iff_not,mem_append,mem_singleton,not_or]at this⊢;exact⟨by lia,this⟩)
 have okW:∀k∈zdm (Ws++wrL t Ls),1<=k.1.length/\k.1.length<=9/\0<=k.2.1/\k.2.1<m:=by intro k hk;rcases mem_append.mp ((zcv k _).mp hk) with z|z;exact q8 k z;let⟨x,hx,e1,e2⟩:=zl3 z;have ok:=lo x hx;have p1:=ok.p1;have p7:=ok.p7;have hh:=ok.hi;rw[e1]at p1 p7;rw[e2]at hh;exact⟨p1,by lia,hh.1,hh.2⟩
 refine W.mono (zan (λj δ T=>(∃u3 u4 u5 u6 u7,δ=[Φ (.ref a),Φ (.ref as),Φ (.int t),u3,u4,u5,u6,u7])/\Kt {V2 with lk:=[V1.len]++V2.lk} T/\∃L',Sy as a K0 m (sD m b (pD lz) (.tup (Ls.map lD))) s w0 kv2 L' T/\L'.length=L.length+j/\∀x∈L',LtOk m x) (λ_ _=>False) _ 0 _ _ ⟨⟨_,_,_,_,_,rfl⟩,Kt.refl _,L,h4,rfl,Lo⟩ ?_) ?_;rintro j z δ T hz ⟨⟨u3,u4,u5,u6,u7,rfl⟩,kt,L',h',l1,l2⟩;have hj:=(Ζ.mp hz).1;rw[length_map]at hj;rw[getElem?_map]at hz;cases hz':(zdm (Ws++wrL t Ls))[j]? with
 |none=>rw[hz']at hz;exact nS hz
 |some k=>rw[hz']at hz;cases hz;let⟨k1,k2,k3,k4⟩:=okW k (mem_of_getElem? hz');obtain⟨i,hi⟩:∃i:Nat,k.2.1=i:=⟨k.2.1.toNat,by lia⟩;refine⟨[Φ (.ref a),Φ (.ref as),Φ (.int t),u3,Φ (pD k.1),Φ (.int (i:Nat)),Φ (.int k.2.2),u7],by rw[<-hi];rfl,(zlJ (n:=n) (i:=i) (p:=k.1) (w:=k.2.2) h' (by lia) k1 k2 (by lia)).mono λf U hU=>?_⟩;cases f with|rt d=>exact hU.elim| nx δ=>let⟨⟨u,rfl⟩,kt2,x,xo,h6⟩:=hU;refine⟨⟨_,_,_,_,_,rfl⟩,kt.trans kt2,L'++[x],h6,by rw[length_append];simp;lia,?_⟩;intro y hy;rcases mem_append.mp hy with z|z;exact l2 y z;rw[mem_singleton]at z;subst z;exact xo
 rintro f T h';cases f with|rt d=>exact h'.elim| nx δ=>let⟨⟨u3,u4,u5,u6,u7,rfl⟩,kt,L',h',l1,l2⟩:=h';rw[length_map]at l1;left;have ktV:Kt S V2:=((q3.kt.trans r3.kt).trans (Mv.push [] V _).kt).trans (Mv.push [] V1 _).kt;refine⟨rfl,⟨kt.frz.trans ktV.frz,ktV.lk,le_trans ktV.len kt.len⟩,kv2,L',h'.lk ?_ ?_,by lia,by lia,l2⟩;intro x hx;exact lt_of_lt_of_le (h3.hk x hx) kt.len;intro x h5 h6;exact(h3.f h5 h6).k
end
abbrev kpE(s w:Int)(k:Nat):MO:=.lst (if(k:Int)=s then [.tup [.int w,.tup []]] else [])
abbrev zbH(s w:Int):Nat->Nat->R.St->R.St
 |_,0,T=>T|k,c+1,T=>zbH s w (k+1) c (T.push (kpE s w k))
def zeT(s w:Int):∀(c k:Nat)(T:R.St),Mv [] T (zbH s w k c T)/\(zbH s w k c T).len=T.len+c
 |0,_,T=>⟨Mv.refl _ _,rfl⟩| c+1,k,T=>by let⟨h1,h2⟩:=zeT s w c (k+1) (T.push (kpE s w k));exact⟨(Mv.push [] T _).trans h1,by rw[zbH,h2,plen];lia⟩
def zfE(s w:Int):∀(c k j:Nat)(T:R.St),j<c->(zbH s w k c T).get (T.len+j)=Φ (kpE s w (k+j))
 |0,_,_,_,h=>by lia|c+1,k,0,T,_=>(zeT s w c (k+1) (T.push (kpE s w k))).1.old _ _ (by simp) (zae _ _)| c+1,k,j+1,T,h=>by have:=zfE s w c (k+1) j (T.push (kpE s w k)) (by lia);rw[plen,show T.len+1+j=T.len+(j+1) by lia,show k+1+j=k+(j+1) by lia]at this;exact this
def t_kp{cf:CF}{s w:Int}:∀(c k:Nat)(u:Option D)(T:R.St),
  zaw [0] (evT cf (.tst (.con (.bl Δ)))) (evE cf (.ite (.cmp .Eq J0 J1) (.lst #[J2]) (.lst .nil))) ((List.range' k c).map λ(i:Nat)=>D.int i) [u,Φ (.int s),Φ (.tup [.int w,.tup []])] T=.ok ((List.range c).map λi=>.ref (T.len+i)) (zbH s w k c T)
 |0,_,_,_=>rfl| c+1,k,u,T=>by
  have ih:=t_kp (cf:=cf) (s:=s) (w:=w) c (k+1) (Φ (.int (k:Nat))) (T.push (kpE s w k));rw[List.range'_succ,ϊ];unfold zaw;show Out.bind (.ok Δ T) _=_;rw[zaz,if_pos rfl];have e:evE cf (.ite (.cmp .Eq J0 J1) (.lst #[J2]) (.lst .nil)) [Φ (.int (k:Nat)),Φ (.int s),Φ (.tup [.int w,.tup []])] T=.ok (.ref T.len) (T.push (kpE s w k)):=by refine W.eq (wE_W _ ?_);unfold kpE;left;refine zbp (λc=>?_) (λc=>?_);rw[if_pos c];left;right;left;exact⟨rfl,rfl⟩;rw[if_neg c];left;right;left;exact⟨rfl,rfl⟩
  show Out.bind (evE cf (.ite (.cmp .Eq J0 J1) (.lst #[J2]) (.lst .nil)) [Φ (.int (k:Nat)),Φ (.int s),Φ (.tup [.int w,.tup []])] T) _=_;rw[e,zaz];show Out.bind (zaw [0] _ _ ((List.range' (k+1) c).map _) [Φ (.int (k:Nat)),Φ (.int s),Φ (.tup [.int w,.tup []])] (T.push (kpE s w k))) _=_;rw[ih,zaz];show Out.ok _ _=Out.ok _ _;rw[List.range_succ_eq_map,ϊ,map_map];congr 1;congr 1;refine Ϣ λi _=>?_;show D.ref _=D.ref _;rw[plen];congr 1;lia
def zqw{S:R.St}{n x:Nat}(e:S.get x=Φ (.ins 0 []))(hf:Fr S x):W (appW (callF prog (n+1)) 26 [.ref x] S) λd T=>d=.non/\Mv [x] S T/\T.len=S.len+1/\T.get x=Φ (bkD S.len)/\T.get S.len=Φ (.d3 []):=by refine zcM (F:=zd0) rfl rfl (wS_W _ ?_);have lt:=get_lt e;left;let⟨T1,h1,v1,g1⟩:=zb9 (S:=S.push (.d3 [])) (f:="made") (v:=.ref S.len) (gs:=[("made",.ref S.len)]) (zah e) (hf.mv (Mv.push [] S _)) (by simp) rfl;exists h1;left;exact⟨rfl,(Mv.push _ _ _).trans v1,by rw[zbf h1,plen],g1,v1.old _ _ (by simp;lia) (zae _ _)⟩
abbrev RnOk(r:Option Int)(b l:Int):Prop:=match r with|none=>l=b+1|some z=>z=l
section
variable{n as a m:Nat}{b s w l:Int}{r:Option Int}{lz:List Int}{Ls:List Ly}{S:R.St}
def zqv(m1:1<=m)(m7:m<=7)(s0:0<=s)(sm:s<m)(wd:-10^60<w/\w<10^60)(l1:1<=l)(l8:l<=8)(hr:RnOk r b l)(lo:∀x∈Ls,LyOk m x)(ln:Ls.length<=57)
  (e:S.get a=Φ (.ins 1 [])) (hf:Fr S a) (gs:S.get as=Φ (sD m b (pD lz) (.tup (Ls.map lD)))) (o1:as<a) (hk:∀x∈S.lk,x<S.len) (fz:S.frz.length<=S.len) :
  W (appW (callF prog (n+4)) 30 [.ref a,.ref as,.int s,.int w,oD r] S) λd T=>d=.non/\Kt S T/\∃K0 kvs L,Sy as a K0 m (sD m b (pD lz) (.tup (Ls.map lD))) s w kvs L T/\L.length<=2000/\∀x∈L,LtOk m x:=by
 refine zcM (F:=zbu) rfl rfl (wS_W _ ?_);have la:=get_lt e;left;exists zaF gs rfl;left;let⟨T1,h1,v1,g1⟩:=zb9 (f:="many") (v:=.int m) (gs:=[("many",.int m)]) e hf (by simp) rfl;exists h1;left;have gs1:=v1.old _ _ (by simp;lia) gs;exists zaF gs1 rfl;left;specialize zeL (n:=n) ⟨s0,sm⟩;left;let⟨T2,h2,v2,g2⟩:=zb9 (f:="sender") (v:=.int s) (gs:=[("many",.int m),("sender",.int s)]) g1 (hf.mv v1) (by simp) rfl;exists h2;left;have v12:=v1.trans v2;have gs2:=v12.old _ _ (by simp;lia) gs;have len2:T2.len=S.len:=by rw[zbf h2,zbf h1]
 specialize zk8 (n:=n) wd;left;right;left;right;left;exists zaF gs2 rfl;left;specialize zhY (n:=n) l1 l8 hr;left;exists zaF gs2 rfl;left;change by lia
 left;refine zal ?_;rw[show((List.range (m:Int).toNat).map λ(k:Nat)=>D.int (k:Int))=(List.range' 0 m).map λ(i:Nat)=>D.int i by rw[Int.toNat_natCast,List.range_eq_range']];refine W.of (t_kp m 0 Ψ _) ?_;change by simp;lia
 left;change by simp;lia
 left;let⟨pm,pl⟩:=zeT s w m 0 T2;have e3:({(zbH s w 0 m T2) with lk:=T2.lk}:R.St)=zbH s w 0 m T2:=ze5 pm.lk;show wOpt (zbF (({(zbH s w 0 m T2) with lk:=T2.lk}:R.St).push (.lst (refs T2.len m))) (.ref a) "keeping" (.ref ({(zbH s w 0 m T2) with lk:=T2.lk}:R.St).len)) _;rw[e3];let T4:=(zbH s w 0 m T2).push (.lst (refs T2.len m));have len4:T4.len=S.len+m+1:=by rw[plen,pl,len2]
 have v24:Mv [a] T2 T4:=(pm.up (by simp)).trans (Mv.push _ _ _);have v4:=v12.trans v24;let⟨T5,h5,v5,g5⟩:=zb9 (S:=T4) (f:="keeping") (v:=.ref (zbH s w 0 m T2).len) (gs:=[("many",.int m),("sender",.int s),("keeping",.ref (zbH s w 0 m T2).len)]) (zah (pm.old _ _ (by simp) g2)) (hf.mv v4) (by simp) rfl;exists h5;left;have len5:T5.len=S.len+m+1:=by rw[zbf h5,len4]
 have v45:=v4.trans v5;have frN:∀x,S.len<=x->Fr S x:=λx hx=>⟨by lia,by
  rw[Bool.eq_false_iff];intro z;have:=hk _ (List.contains_iff_mem.mp z);lia⟩
 refine zcu ((zqw (n:=n+2) (S:=T5.push (.ins 0 [])) (zae _ _) (((frN T5.len (by lia)).mv v45).mv (Mv.push [] T5 _))).mono λd T6 q'=>?_);let⟨b1,b2,b3,b4,b5⟩:=q';subst b1;rw[plen]at b3 b4 b5;have v56:Mv [a,T5.len] T5 T6:=(Mv.push _ _ _).trans (b2.up (by simp));have a5:a≠T5.len:=by lia
 have g6:T6.get a=Φ (.ins 1 [("many",.int m),("sender",.int s),("keeping",.ref (zbH s w 0 m T2).len)]):=b2.old _ _ (by simpa using a5) (zah g5);have v6:Mv [a,T5.len] S T6:=(v45.up (by simp)).trans v56;change rfl;left;let⟨T7,h7,v7,g7⟩:=zb9 (f:="book") (v:=.ref T5.len) (gs:=[("many",.int m),("sender",.int s),("keeping",.ref (zbH s w 0 m T2).len),("book",.ref T5.len)]) g6 (hf.mv v6) (by simp) rfl;exists h7;left;right;left;have len7:T7.len=S.len+m+3:=by rw[zbf h7,b3,len5]
 let⟨T8,h8,v8,g8⟩:=zb9 (S:=T7.push (.lst [])) (f:="sent") (v:=.ref T7.len) (gs:=[("many",.int m),("sender",.int s),("keeping",.ref (zbH s w 0 m T2).len),("book",.ref T5.len),("sent",.ref T7.len)]) (zah g7) ((hf.mv (v6.trans (v7.up (by simp)))).mv (Mv.push [] T7 _)) (by simp) rfl;exists h8;left;have v78:Mv [a] T6 T8:=v7.trans ((Mv.push _ _ _).trans v8);have v8S:Mv [a,T5.len] S T8:=v6.trans (v78.up (by simp));have v58:Mv [a,T5.len] T5 T8:=v56.trans (v78.up (by simp));have v48:Mv [a,T5.len] T4 T8:=(v5.up (by simp)).trans v58;have ep:(zbH s w 0 m T2).len=S.len+m:=by rw[pl,len2]
 have len8:T8.len=S.len+m+4:=by rw[zbf h8,plen,len7]
 have y0:Sy as a S.len m (sD m b (pD lz) (.tup (Ls.map lD))) s w [] [] T8:=by
  refine⟨o1,la,?_,v8S.old _ _ (by simp;lia) gs,?_,?_,?_,?_,?_,?_,?_,?_⟩;rw[g8,ep,len5,len7];rfl;rw[<-ep];refine v48.old _ _ (by simp;lia) ?_;rw[zae,len2];rw[show S.len+m+1=T5.len by lia];refine v78.old _ _ (by simp;lia) ?_;rw[b4,len5];rw[show S.len+m+2=T5.len+1 by lia];exact v78.old _ _ (by simp;lia) b5;rw[<-len7];exact v8.old _ _ (by simp;lia) (zae _ _)
  . intro i hi;refine v48.old _ _ (by simp;lia) ?_;have:=zfE s w m 0 i T2 hi;rw[len2,zero_add]at this;refine zah (this.trans ?_);unfold kpE dueL;rw[List.foldl_nil];split<;>rfl
  intro x hx;exact .inl ((frN x hx).mv v8S);intro x hx;have:=hk x (by rw[<-v8S.lk];exact hx);lia;rw[v8S.frz];exact fz
 change by lia
 left;refine zal ?_;refine W.mono (zan (λj δ T=>(∃u,δ=[Φ (.ref a),Φ (.ref as),Φ (.int s),Φ (.int w),Φ (oD r),Φ (.tup [.int w,.tup []]),Φ (.int l),u])/\Kt T8 T/\∃kvs L,Sy as a S.len m (sD m b (pD lz) (.tup (Ls.map lD))) s w kvs L T/\kvs.length<=413*j/\L.length<=155*j/\∀x∈L,LtOk m x) (λ_ _=>False) _ 0 _ _ ⟨⟨Ψ,rfl⟩,Kt.refl _,[],[],y0,by simp,by simp,by simp⟩ ?_) ?_;rintro j z δ T hz ⟨⟨u,rfl⟩,kt,kvs,L,y,k1,k2,k3⟩;have hj:=(Ζ.mp hz).1;have hj:j<8:=by simp at hj;lia
 obtain⟨t,rfl,t8⟩:∃t:Int,z=.int t/\t<=8:=by let⟨i,hi,rfl⟩:=mem_map.mp (mem_of_getElem? hz);refine⟨_,rfl,?_⟩;have:=mem_range.mp hi;lia
 refine⟨_,rfl,wS_W _ ?_⟩;left;exists zar y.ga;left;exists rfl;left;change rfl;left;refine zcu ((zn1 (n:=n) (t:=t) m7 y lo ln t8 (by lia) (by lia) k3).mono λd U q'=>?_);let⟨q1,q2,kv2,L2,q3,q4,q5,q6⟩:=q';left;exact⟨⟨_,rfl⟩,kt.trans q2,kv2,L2,q3,by lia,by lia,q6⟩;rintro f T h';cases f with|rt d=>exact h'.elim| nx δ=>let⟨⟨u,rfl⟩,kt,kvs,L,y,k1,k2,k3⟩:=h';have e9:({T with lk:=T8.lk}:R.St)=T:=ze5 kt.lk;left;refine⟨rfl,?_,S.len,kvs,L,?_,?_,k3⟩;exact⟨kt.frz.trans v8S.frz,v8S.lk,le_trans v8S.len kt.len⟩;show Sy as a S.len m (sD m b (pD lz) (.tup (Ls.map lD))) s w kvs L {T with lk:=T8.lk};rw[e9];exact y;simp at k2;lia
end
def zoq(N:Nat)(k:Kp):flat N (kD k)=Δ:=by unfold kD;simp[zaJ]
def zlR(N:Nat)(ks:List Kp):flats N (ks.map kD)=Δ:=by rw[zaJ];intro d hd;let⟨k,_,rfl⟩:=mem_map.mp hd;exact zoq _ _
abbrev endZ:List Kp->Int
 | [k]=>k.1|_=>0
section
variable{n as a K0 m:Nat}{sd:MO}{s w0:Int}{kvs:List (K3×D)}{L:List Lt}{S:R.St}
def zjH(h:Sy as a K0 m sd s w0 kvs L S)(ll:L.length<=2000):appW (callF prog (n+1)) 35 [.ref a] S=.ok (.ref S.len) (S.push (.lst (L.map seD))):=by
 refine zcs (F:=zbA) rfl rfl ?_;left;exists zaF h.ga rfl;left;exists h.gL;left;change by rw[length_map];lia
 left;exact⟨rfl,rfl⟩
def zjI{i:Nat}(h:Sy as a K0 m sd s w0 kvs L S)(hi:i<m):appW (callF prog (n+4)) 34 [.ref a,.int (i:Nat)] S=.ok (.ref S.len) (S.push (.lst ((dueL s w0 L i).map kD))):=by
 have dl:=zcF s w0 i L;refine zcs (F:=zcK) rfl rfl ?_;left;exists zaF h.ga rfl;left;exists zaF h.ga rfl;left;specialize zeL (n:=n) (show 0<=(i:Int)/\(i:Int)<(m:Int) by lia);left;exists h.gK;left;exists zgu hi;left;exists h.gi i hi;left;change by rw[length_map];lia
 left;exact⟨rfl,rfl⟩
def ze4{i:Nat}(h:Sy as a K0 m sd s w0 kvs L S)(hi:i<m):appW (callF prog (n+5)) 31 [.ref a,.int (i:Nat)] S=.ok (.int (endZ (dueL s w0 L i))) (S.push (.lst ((dueL s w0 L i).map kD))):=by
 refine zcs (F:=zbS) rfl rfl ?_;left;exists zar h.ga;left;exists rfl;left;change rfl;left;specialize zjI (n:=n) h hi;left;exists zae _ _;left;refine zbp (λc=>?_) (λc=>?_)
 . rw[length_map]at c
   match hd:dueL s w0 L i,c with| [k],_=>left;exists zae _ _;left;exists atI_0;left;exists atI_0;left;exact⟨rfl,rfl⟩
 . rw[length_map]at c;left;refine⟨?_,rfl⟩;congr 1
   match hd:dueL s w0 L i with| []=>rfl| [k]=>rw[hd]at c;exact absurd rfl c|k::k'::r=>rfl
def Sy.mv{T:R.St}(h:Sy as a K0 m sd s w0 kvs L S)(v:Mv [] S T):Sy as a K0 m sd s w0 kvs L T:=h.up v (by simp) (v.old _ _ (by simp) h.gL) λi hi=>v.old _ _ (by simp) (h.gi i hi)
abbrev zbt(s w0:Int)(L:List Lt)(k c:Nat):List Int:=(List.range' k c).map λi=>endZ (dueL s w0 L i)
def zo6:∀(c k:Nat)(u:Option D)(T:R.St),Sy as a K0 m sd s w0 kvs L T->k+c<=m->∃U,Mv [] T U/\
  zaw [0] (evT (callF prog (n+5)) (.tst (.con (.bl Δ)))) (evE (callF prog (n+5)) (.meth "ending" [(1,31)] J1 #[J0])) ((List.range' k c).map λ(i:Nat)=>D.int i) [u,Φ (.ref a)] T=.ok ((zbt s w0 L k c).map .int) U
 |0,_,_,T,_,_=>⟨T,Mv.refl _ _,rfl⟩| c+1,k,u,T,h,hc=>by
  let⟨U,v,ih⟩:=zo6 c (k+1) (Φ (.int (k:Nat))) (T.push (.lst ((dueL s w0 L k).map kD))) (h.push _) (by lia);refine⟨U,(Mv.push [] T _).trans v,?_⟩;have e:evE (callF prog (n+5)) (.meth "ending" [(1,31)] J1 #[J0]) [Φ (.int (k:Nat)),Φ (.ref a)] T=.ok (.int (endZ (dueL s w0 L k))) (T.push (.lst ((dueL s w0 L k).map kD))):=by refine W.eq (wE_W _ ?_);left;exists zar h.ga;left;exists rfl;left;change rfl;left;specialize ze4 (n:=n) h (show k<m by lia);left;exact⟨rfl,rfl⟩
  rw[List.range'_succ,ϊ];unfold zaw;show Out.bind (.ok Δ T) _=_;rw[zaz,if_pos rfl];show Out.bind (evE (callF prog (n+5)) (.meth "ending" [(1,31)] J1 #[J0]) [Φ (.int (k:Nat)),Φ (.ref a)] T) _=_;rw[e,zaz];show Out.bind (zaw [0] _ _ ((List.range' (k+1) c).map _) [Φ (.int (k:Nat)),Φ (.ref a)] _) _=_;rw[ih,zaz];rfl
def zfM(m7:m<=7)(h:Sy as a K0 m sd s w0 kvs L S):∃U,Mv [] S U/\appW (callF prog (n+6)) 32 [.ref a] S=.ok (.ref U.len) (U.push (.lst ((zbt s w0 L 0 m).map .int))):=by
 let⟨U,v,e⟩:=zo6 (n:=n) m 0 Ψ S h (by lia);refine⟨U,v,zcs (F:=zbB) rfl rfl ?_⟩;have el:(zbt s w0 L 0 m).length=m:=by unfold zbt;simp
 left;exists zaF h.ga rfl;left;change by lia
 left;refine zal ?_;rw[show((List.range (m:Int).toNat).map λ(k:Nat)=>D.int (k:Int))=(List.range' 0 m).map λ(i:Nat)=>D.int i by rw[Int.toNat_natCast,List.range_eq_range']];refine W.of e ?_;change by rw[length_map];lia
 left;change by rw[length_map];lia
 left;have e3:({U with lk:=S.lk}:R.St)=U:=ze5 v.lk;refine⟨?_,?_⟩;show D.ref ({U with lk:=S.lk}:R.St).len=_;rw[e3];show({U with lk:=S.lk}:R.St).push _=_;rw[e3]
def zmX{α:Type}{L:List α}{i:Nat}{x:α}(h:L[i]?=Φ x):L.take (i+1)=L.take i++[x]:=by rw[List.take_succ,h];rfl
abbrev dueT:CS:=Nat.repeat CS.rest 2 c_law_due.body
abbrev dueB:CS:=match dueT with|.forS _ _ b _=>b|_=>.nil
def zov{cf:CF}{F gb:List MO}{ll hh:Nat}{w:Int}{x:Lt}{acc:List Kp}{u5 u6 u7 u8 u9:Option D}(lo:LtOk m x)(al:acc.length<=2)(hl:ll<F.length) :
  W (exS cf dueB [Φ (.ref ll),Φ (.int (hh:Nat)),Φ (.int s),Φ (.int w),Φ (.ref (F.length+0)),Φ (.int x.t),Φ (pD x.p),Φ (.int x.to),Φ (.int x.w),Φ (.bl x.g)] ⟨F,.lst (acc.map kD)::gb,[ll]⟩) λf T=>match f with|.nx δ=>(∃u5 u6 u7 u8 u9,δ=[Φ (.ref ll),Φ (.int (hh:Nat)),Φ (.int s),Φ (.int w),Φ (.ref (F.length+0)),u5,u6,u7,u8,u9])/\∃gb,T=⟨F,.lst ((if x.to=(hh:Int)/\hits s x=Δ then kpZ acc x.w x.p else acc).map kD)::gb,[ll]⟩|.rt _=>False:=by
 let⟨t,p,to,v,g⟩:=x;obtain⟨p0,ps,rfl⟩:∃p0 ps,p=p0::ps:=by cases p with|nil=>exact absurd lo.p1 (by simp)|cons a b=>exact⟨a,b,rfl⟩
 have no:¬(to=(hh:Int)/\hits s ⟨t,p0::ps,to,v,g⟩=Δ)->(∃u5 u6 u7 u8 u9,[Φ (.ref ll),Φ (.int (hh:Nat)),Φ (.int s),Φ (.int w),Φ (.ref (F.length+0)),Φ (.int t),Φ (pD (p0::ps)),Φ (.int to),Φ (.int v),Φ (.bl g)]=[Φ (.ref ll),Φ (.int (hh:Nat)),Φ (.int s),Φ (.int w),Φ (.ref (F.length+0)),u5,u6,u7,u8,u9])/\∃gb',(⟨F,.lst (acc.map kD)::gb,[ll]⟩:R.St)=⟨F,.lst ((if to=(hh:Int)/\hits s ⟨t,p0::ps,to,v,g⟩=Δ then kpZ acc v (p0::ps) else acc).map kD)::gb',[ll]⟩:=λh=>by rw[if_neg h];exact⟨⟨_,_,_,_,_,rfl⟩,_,rfl⟩
 have hn:∀q:Bool,hits s ⟨t,p0::ps,to,v,g⟩=q->q=Θ->¬(to=(hh:Int)/\hits s ⟨t,p0::ps,to,v,g⟩=Δ):=λq e1 e2 h=>by rw[e1,e2]at h;exact absurd h.2 (by decide)
 refine wS_W _ ?_;left;refine zbp (λc1=>?_) (λc1=>?_);left;refine ziK (λc2=>?_) (λc2=>?_);left;refine zbp (λc3=>?_) (λc3=>?_);rw[length_map]at c3;left;exists(atI_0:atI (D.int p0::ps.map .int) 0=Φ (.int p0));left;refine zbp (λc4=>?_) (λc4=>?_);have hy:hits s ⟨t,p0::ps,to,v,g⟩=Δ:=by unfold hits;rw[show g=Δ from c2,decide_eq_true (show(((p0::ps).length:Nat):Int)=t from c3),decide_eq_true (show(p0::ps).head?=Φ s by rw[show p0=s from c4];rfl)];rfl
 rw[if_pos ⟨c1,hy⟩];left;refine zay rfl ?_;left;refine zbp (λc5=>?_) (λc5=>?_);rw[length_map]at c5;have kl:(acc.map (·.1)).length<=2:=by rw[length_map];exact al
 left;refine zay rfl ?_;left;refine zal ?_;refine W.of (zgZ acc Ψ) ?_;change by rw[length_map];lia
 left;change by rw[length_map];lia
 left;exists zfI (zae _ _) v;left;refine ziK (λd=>?_) (λd=>?_);have nw:v∉acc.map (·.1):=by simpa using d
 have e0:kpZ acc v (p0::ps)=acc++[(v,p0::ps)]:=by unfold kpZ;rw[if_pos ⟨by lia,nw⟩]
 left;refine zay rfl ?_;left;right;left;refine zay rfl ?_;left;change by rw[length_append,length_map];simp;lia
 left;refine zbV (by simp;lia) ?_;left;refine⟨⟨_,_,_,_,_,rfl⟩,gb++[.lst ((acc.map (·.1)).map .int)],?_⟩;rw[e0,map_append];rfl;have nw:v∈acc.map (·.1):=by simpa using d
 have e0:kpZ acc v (p0::ps)=acc:=by unfold kpZ;rw[if_neg λz=>z.2 nw]
 rw[e0];left;exact⟨⟨_,_,_,_,_,rfl⟩,_,rfl⟩;rw[length_map]at c5;have e0:kpZ acc v (p0::ps)=acc:=by unfold kpZ;rw[if_neg λz=>c5 (by have:=z.1;lia)]
 rw[e0];left;exact⟨⟨_,_,_,_,_,rfl⟩,_,rfl⟩;left;exact no (hn _ rfl (by
  unfold hits;rw[decide_eq_false (show ¬(p0::ps).head?=Φ s from λz=>c4 (by cases z;rfl))];simp))
 left;exact no (hn _ rfl (by
  unfold hits;rw[decide_eq_false (show ¬(((p0::ps).length:Nat):Int)=t from λz=>c3 (by rw[length_map];exact z))];simp))
 left;exact no (hn _ rfl (by unfold hits;rw[show g=Θ from c2];rfl));left;exact no λh=>c1 h.1
def zlT{cf:CF}{F:List MO}{ll hh:Nat}{w:Int}(g:(⟨F,[],[]⟩:R.St).get ll=Φ (.lst (L.map seD)))(lo:∀x∈L,LtOk m x)(hl:ll<F.length) :
  W (exS cf dueT [Φ (.ref ll),Φ (.int (hh:Nat)),Φ (.int s),Φ (.int w),Φ (.ref (F.length+0)),Ψ,Ψ,Ψ,Ψ,Ψ] ⟨F,[.lst ((dueL s w [] hh).map kD)],[]⟩) λr T=>r=.rt (.ref (F.length+0))/\T.get (F.length+0)=Φ (.lst ((dueL s w L hh).map kD)):=by
 have gg:∀nw lk,(⟨F,nw,lk⟩:R.St).get ll=Φ (.lst (L.map seD)):=λnw lk=>by unfold St.get at g⊢;rw[if_pos hl]at g⊢;exact g
 refine zcE (xs:=L.map seD) (ls:=[ll]) (S1:=⟨F,[.lst ((dueL s w [] hh).map kD)],[]⟩) ?_ ?_;refine W.eq (wL_W _ ?_);left;exists gg _ _;left;exact⟨rfl,rfl⟩;refine W.mono (zan (λi δ T=>(∃u5 u6 u7 u8 u9,δ=[Φ (.ref ll),Φ (.int (hh:Nat)),Φ (.int s),Φ (.int w),Φ (.ref (F.length+0)),u5,u6,u7,u8,u9])/\∃gb,T=⟨F,.lst ((dueL s w (L.take i) hh).map kD)::gb,[ll]⟩) (λ_ _=>False) _ 0 _ _ ⟨⟨_,_,_,_,_,rfl⟩,[],rfl⟩ ?_) ?_;rintro i z δ T hz ⟨⟨u5,u6,u7,u8,u9,rfl⟩,gb,rfl⟩;rw[getElem?_map]at hz;cases hz':L[i]? with
 |none=>rw[hz']at hz;exact nS hz
 |some x=>rw[hz']at hz;cases hz;refine⟨_,rfl,(zov (gb:=gb) (u5:=Ψ) (u6:=Ψ) (u7:=Ψ) (u8:=Ψ) (u9:=Ψ) (lo x (mem_of_getElem? hz')) (zcF s w hh _) hl).mono λf U hU=>?_⟩;cases f with|rt d=>exact hU.elim| nx δ=>let⟨⟨_,_,_,_,_,rfl⟩,gb',rfl⟩:=hU;refine⟨⟨_,_,_,_,_,rfl⟩,gb',?_⟩;rw[show 0+i+1=i+1 by lia,zmX hz',zdT,zero_add]
 rintro f T h';cases f with|rt d=>exact h'.elim| nx δ=>let⟨⟨u5,u6,u7,u8,u9,rfl⟩,gb,rfl⟩:=h';refine wS_W _ ?_;left;refine⟨rfl,?_⟩;rw[zero_add,length_map,List.take_length];exact zbL _ _ _ 0
def zrC{ll hh:Nat}{w:Int}(g:S.get ll=Φ (.lst (L.map seD)))(lo:∀x∈L,LtOk m x):app (callF prog (n+1)) 23 [.ref ll,.int (hh:Nat),.int s,.int w] S=.ok (.ref S.len) (S.push (.lst ((dueL s w L hh).map kD))):=by
 have lt:=get_lt g;have hl:ll<(S.frz++S.new).length:=by simpa[St.len]using lt
 have lp:=zlT (cf:=callF prog n) (F:=S.frz++S.new) (hh:=hh) (s:=s) (w:=w) (zdO g [] []) lo hl;refine zoH (F:=c_law_due) rfl rfl ?_;refine zax (d:=.ref ((S.frz++S.new).length+0)) (S':=⟨S.frz++S.new,[.lst []],[]⟩) rfl ?_;have fin:∀{r:Fl}{T:R.St},(r=.rt (.ref ((S.frz++S.new).length+0))/\T.get ((S.frz++S.new).length+0)=Φ (.lst ((dueL s w L hh).map kD)))->∃l,r=.rt (.ref l)/\S.len<=l/\T.get l=Φ (.lst ((dueL s w L hh).map kD))/\flats S.len ((dueL s w L hh).map kD)=Δ:=λh=>⟨_,h.1,by simp[St.len],h.2,zlR _ _⟩;refine zc0 (λb=>b=decide ((hh:Int)=s)) (wT_W _ ?_) (λhb=>?_) (λhb=>?_);left;exact⟨rfl,rfl⟩;have hs:(hh:Int)=s:=of_decide_eq_true hb.symm;refine wS_W _ ?_;left;refine zay rfl ?_;left;right;left;right;left;refine zay rfl ?_;left;right;left;refine zbV rfl ?_;left;rw[show dueL s w [] hh=[(w,[])] by unfold dueL;rw[List.foldl_nil,if_pos hs]]at lp;exact lp.mono λr T q=>fin q;have hs:¬(hh:Int)=s:=of_decide_eq_false hb.symm;rw[show dueL s w [] hh=[] by unfold dueL;rw[List.foldl_nil,if_neg hs]]at lp;exact lp.mono λr T q=>fin q
end
section
variable{n:Nat}{S:R.St}
def s_lw{i:Int}:app (callF prog (n+1)) 13 [.int i] S=.ok (.bl Δ) S:=by refine zaM (F:=zdY) rfl rfl ?_;left;exists(show tyOf S.enter (.int i)=Φ "int" from rfl);left;exists(show tyOf S.enter (.int i)=Φ "int" from rfl);left;exact zag rfl ⟨rfl,rfl⟩
def s_lp{p:List Int}(pl:p.length<=1000):app (callF prog (n+2)) 14 [pD p] S=.ok (.bl Δ) S:=by
 refine zaM (F:=zew) rfl rfl ?_;left;exists(show tyOf S.enter (pD p)=Φ "tuple" from rfl);left;refine zal ?_;refine W.of (zbW (λd=>.bl Δ) (p.map D.int) Ψ (λz hz=>rfl) (λz hz=>?_)) ?_;let⟨q,hq,rfl⟩:=mem_map.mp hz;refine W.eq (wE_W _ ?_);left;specialize(s_lw (n:=n));left;exact⟨rfl,rfl⟩;left;change by simp;lia
 left;exists zfk p _ (λ_=>rfl);left;exact zag rfl ⟨rfl,rfl⟩
abbrev kP(k:Kp):PySem.PyData:=.tuple [.int k.1,.tuple (k.2.map .int)]
def zeV(S:R.St)(n:Nat):∀p:List Int,(p.map D.int).mapM (pd S n)=Φ (p.map .int)
 | []=>rfl| i::p=>by rw[ϊ,mapM_cons,zeV S n p];cases n<;>rfl
def zqc(S:R.St)(n:Nat)(k:Kp):pd S (n+2) (kD k)=Φ (kP k):=by
 have e1:pd S (n+1) (pD k.2)=Φ (.tuple (k.2.map .int)):=by simp![pd,zeV];rfl
 have e2:pd S (n+1) (.int k.1)=Φ (.int k.1):=rfl;unfold kD;rw[pd];simp![mapM_cons,List.mapM_nil,e1,e2];rfl
def znR(S:R.St)(n:Nat):∀ks:List Kp,(ks.map kD).mapM (pd S (n+2))=Φ (ks.map kP)
 | []=>rfl|k::ks=>by rw[ϊ,mapM_cons,zqc,znR S n ks];rfl
def zpB{x y:Nat}{ks:List Kp}(hx:S.get x=Φ (.lst (ks.map kD)))(hy:S.get y=Φ (.lst (ks.map kD)))(kl:∀k∈ks,k.2.length<=1000):app (callF prog (n+3)) 24 [.ref x,.ref y] S=.ok (.bl Δ) S:=by
 refine zaM (F:=zev) rfl rfl ?_;left;exists(show tyOf S.enter (.ref x)=Φ "list" by unfold tyOf;dsimp only;rw[zaZ,hx]);left;exists zcq (S:=S.enter) (by rw[zaZ];exact hx) (by rw[zaZ];exact hy) (znR _ 57 ks);left;refine zbq hx ?_;left;refine zal ?_;refine W.mono (zan (λi δ T=>(∃u:Option D,δ=[Φ (.ref x),Φ (.ref y),u])/\T=⟨S.frz++S.new,[],[x]⟩) (λ_ _=>False) _ 0 _ _ ⟨⟨Ψ,rfl⟩,rfl⟩ ?_) ?_;rintro i z δ T hz ⟨⟨u,rfl⟩,rfl⟩;rw[getElem?_map]at hz;cases e:ks[i]? with
 |none=>rw[e]at hz;exact nS hz
 |some k=>rw[e]at hz;cases hz;refine⟨_,rfl,wS_W _ ?_⟩;left;exists(show tyOf _ (kD k)=Φ "tuple" from rfl);left;exists(atI_0:atI [D.int k.1,pD k.2] 0=Φ (.int k.1));left;specialize(s_lw (n:=n+1));left;exists(atI_1:atI [D.int k.1,pD k.2] 1=Φ (pD k.2));left;specialize(s_lp (n:=n) (kl k (mem_of_getElem? e)));left;exact⟨⟨_,rfl⟩,rfl⟩
 rintro f T h';cases f with|rt d=>exact h'.elim| nx δ=>let⟨⟨u,rfl⟩,rfl⟩:=h';left;exact zag rfl ⟨rfl,rfl⟩
end
def Sy.mvA{as a K0 m:Nat}{sd:MO}{s w0:Int}{kvs:List (K3×D)}{L:List Lt}{S T:R.St}{A:List Nat}(h:Sy as a K0 m sd s w0 kvs L S)(v:Mv A S T)(hA:∀x∈A,K0+m+3<x):Sy as a K0 m sd s w0 kvs L T:=by have o1:=h.o1;have o2:=h.o2;have k:∀x o,x<=K0+m+3->S.get x=Φ o->T.get x=Φ o:=λx o hx e=>v.old _ _ (λz=>by have:=hA x z;lia) e;exact⟨o1,o2,k _ _ (by lia) h.ga,k _ _ (by lia) h.gs,k _ _ (by lia) h.gK,k _ _ (by lia) h.gB,k _ _ (by lia) h.gD,k _ _ (by lia) h.gL,λi hi=>k _ _ (by lia) (h.gi i hi),λx hx=>(h.fr x hx).imp (λq=>q.mv v) id,λx hx=>lt_of_lt_of_le (h.hk x (by rw[<-v.lk];exact hx)) v.len,by rw[v.frz];exact h.fz⟩
def zqK{acc:List Kp}{w:Int}{p:List Int}{k:Kp}(h:k∈kpZ acc w p):k∈acc\/k=(w,p):=by unfold kpZ at h;split at h;rcases mem_append.mp h with z|z;exact .inl z;exact .inr (mem_singleton.mp z);exact .inl h
def zow(m:Nat)(s w0:Int)(h:Nat)(L:List Lt)(lo:∀x∈L,LtOk m x):∀k∈dueL s w0 L h,k.2.length<=1000:=by
 unfold dueL;suffices ∀(L:List Lt)(acc:List Kp),(∀x∈L,LtOk m x)->(∀k∈acc,k.2.length<=1000)->∀k∈(L.foldl (λacc x=>if x.to=(h:Int)/\hits s x=Δ then kpZ acc x.w x.p else acc) acc),k.2.length<=1000 by refine this L _ lo ?_;intro k hk;split at hk;rw[mem_singleton]at hk;subst hk;simp;cases hk
 intro L;induction L with|nil=>intro acc _ h;exact h| cons x L ih=>intro acc lo ha;rw[List.foldl_cons];refine ih _ (λy hy=>lo y (Ρ _ hy)) ?_;split;intro k hk;rcases zqK hk with z|rfl;exact ha k z;have:=(lo x Υ).p9;exact le_trans this (by lia);exact ha
def zjL{T:R.St}{l:Nat}{ds:List D}{v w:D}(hf:Fr T l)(e:T.get l=Φ (.lst (ds++[w]))):∃U,dPut T (.ref l) (.int (-1)) v=Φ U/\Mv [l] T U/\U.get l=Φ (.lst (ds++[v])):=by let⟨U,h1,h2,h3⟩:=zdz (u:=.lst (ds++[v])) hf e;refine⟨U,?_,h2,h3⟩;unfold dPut;dsimp only;rw[e];dsimp only[zea,bind_some];rw[show R.ixN (ds++[w]).length (-1)=Φ ds.length by unfold R.ixN;rw[length_append];simp;lia,bind_some];rw[show(ds++[w]).set ds.length v=ds++[v] by simp];exact h1
def zl1{ds:List D}{v:D}:atI (ds++[v]) (-1)=Φ v:=by unfold atI;rw[show R.ixN (ds++[v]).length (-1)=Φ ds.length by unfold R.ixN;rw[length_append];simp;lia,bind_some];simp
abbrev lB:CS:=match Nat.repeat CS.rest 4 c_law.body with|.forS _ _ b _=>b|_=>.nil
abbrev lTl:CS:=match Nat.repeat CS.rest 4 c_law.body with|.forS _ _ _ r=>r|_=>.nil
noncomputable abbrev El(ns:List Int)(m:Nat)(b s w l:Int)(x3 x6:D)(r:Option Int)(a el:Nat)(u11 u12 u13:Option D):Ev:=[Φ (.fix (ns.map .int)),Φ (.int (m:Nat)),Φ (.int b),Φ x3,Φ (.int s),Φ (.int w),Φ x6,Φ (oD r),Φ (.int l),Φ (.ref a),Φ (.ref el),u11,u12,u13]
def zcV(s w0:Int)(L:List Lt)(i:Nat):(zbt s w0 L 0 (i+1))=zbt s w0 L 0 i++[endZ (dueL s w0 L i)]:=by unfold zbt;rw[List.range'_concat,map_append];simp
section
variable{n as a K0 m:Nat}{sd:MO}{b s w l:Int}{kvs:List (K3×D)}{L:List Lt}{T:R.St}
structure Lp(as a K0 m:Nat)(sd:MO)(s w:Int)(kvs:List (K3×D))(L:List Lt)(el i:Nat)(T:R.St):Prop where
 y:Sy as a K0 m sd s w kvs L T
 fz:T.frz=[]
 lk:T.lk=[]
 ge:T.get el=Φ (.lst ((zbt s w L 0 i).map .int))
 lo:K0+m+3<el
def Lp.fr{el i:Nat}(h:Lp as a K0 m sd s w kvs L el i T)(x:Nat):Fr T x:=⟨by rw[h.fz];exact zero_le _,by rw[h.lk];rfl⟩
abbrev lB2:CS:=Nat.repeat CS.rest 6 lB
def zmy{ns:List Int}{x3 x6:D}{r:Option Int}{el i d:Nat}{u13:Option D}(h:Lp as a K0 m sd s w kvs L el (i+1) T)(hi:i<m)(g:T.get d=Φ (.lst ((dueL s w L i).map kD))) :
  wS (callF prog (n+6)) lB2 (El ns m b s w l x3 x6 r a el (Φ (.int (i:Nat))) (Φ (.ref d)) u13) T λf U=>match f with|.nx δ=>(∃u12 u13,δ=El ns m b s w l x3 x6 r a el (Φ (.int (i:Nat))) u12 u13)/\Lp as a K0 m sd s w kvs L el (i+1) U|.rt _=>False:=by
 have y:=h.y;have ge:=h.ge;rw[zcV,map_append]at ge;left;exists zar y.ga;left;exists rfl;left;change rfl;left;specialize ze4 (n:=n+1) y hi;left;specialize(s_lw (n:=n+5));left;have v1:=Mv.push [] T (.lst ((dueL s w L i).map kD));generalize T.push (.lst ((dueL s w L i).map kD))=T1 at v1⊢;have y1:=y.mvA v1 (by simp);exists zar y1.ga;left;exists rfl;left;change rfl;left;specialize ze4 (n:=n+1) y1 hi;left;have v2:=v1.trans (Mv.push [] T1 (.lst ((dueL s w L i).map kD)));generalize T1.push (.lst ((dueL s w L i).map kD))=T2 at v2⊢;have y2:=y.mvA v2 (by simp);exists v2.old _ _ (by simp) ge;left;exists zl1;left;rw[show(!decide (endZ (dueL s w L i)=endZ (dueL s w L i)))=Θ by simp];left;exists zar y2.ga;left;exists rfl;left;change rfl;left;specialize zjI (n:=n+2) y2 hi;left;have v3:=v2.trans (Mv.push [] T2 (.lst ((dueL s w L i).map kD)));exists zcq (zae _ _) (v3.old _ _ (by simp) g) (znR _ 57 _);left;exact⟨⟨_,_,rfl⟩,y.mvA v3 (by simp),v3.frz.trans h.fz,v3.lk.trans h.lk,v3.old _ _ (by simp) h.ge,h.lo⟩
def zr3{ns:List Int}{x3 x6:D}{r:Option Int}{el i:Nat}{u12 u13:Option D}(h:Lp as a K0 m sd s w kvs L el i T)(hi:i<m)(m7:m<=7)(ll:L.length<=2000)(lo:∀x∈L,LtOk m x) :
  W (exS (callF prog (n+6)) lB (El ns m b s w l x3 x6 r a el (Φ (.int (i:Nat))) u12 u13) T) λf U=>match f with|.nx δ=>(∃u12 u13,δ=El ns m b s w l x3 x6 r a el (Φ (.int (i:Nat))) u12 u13)/\Lp as a K0 m sd s w kvs L el (i+1) U|.rt _=>False:=by
 have y:=h.y;refine wS_W _ ?_;left;exists zar y.ga;left;exists rfl;left;change rfl;left;specialize zjH (n:=n+5) y ll;left;specialize(zrC (n:=n+5) (m:=m) (zae _ _) lo);left;have v1:=(Mv.push [] T (.lst (L.map seD))).trans (Mv.push [] _ (.lst ((dueL s w L i).map kD)));have g12:=zae (T.push (.lst (L.map seD))) (.lst ((dueL s w L i).map kD));have l1:(T.push (.lst (L.map seD))).len=T.len+1:=plen _ _;have l2:((T.push (.lst (L.map seD))).push (.lst ((dueL s w L i).map kD))).len=T.len+2:=by rw[plen,l1]
 rw[l1]at g12⊢;generalize(T.push (.lst (L.map seD))).push (.lst ((dueL s w L i).map kD))=T1 at v1 g12 l2⊢;have y1:=y.mvA v1 (by simp);have hlt:=get_lt h.ge;exists zar y1.ga;left;exists rfl;left;change rfl;left;specialize zjI (n:=n+2) y1 hi;left;have v2:=Mv.push [] T1 (.lst ((dueL s w L i).map kD));have g13:=zae T1 (.lst ((dueL s w L i).map kD));have l3:(T1.push (.lst ((dueL s w L i).map kD))).len=T.len+3:=by rw[plen,l2]
 rw[l2]at g13⊢;generalize T1.push (.lst ((dueL s w L i).map kD))=T2 at v2 g13 l3⊢;have y2:=y1.mvA v2 (by simp);have g12':=v2.old _ _ (by simp) g12;specialize zpB (n:=n+3) g13 g12' (zow m s w i L lo);left;have v02:=v1.trans v2;have ge2:=v02.old _ _ (by simp) h.ge;exists g13;left;exists g13;left;change by rw[length_append,length_map];have:=zcF s w i L;simp;lia
 left;let⟨T3,e3,v3,g3⟩:=zdz (u:=.lst ((dueL s w L i).map kD++[.int 0])) ((h.fr _).mv v02) g13;exists e3;left;have o1:=y.o1;have o2:=y.o2;have o3:=h.lo;have y3:=y2.mvA v3 (by simp;lia);have ge3:=v3.old _ _ (by simp;lia) ge2;have el7:(zbt s w L 0 i).length=i:=by unfold zbt;simp
 exists ge3;left;exists ge3;left;change by rw[length_append,length_map];simp;lia
 left;let⟨T4,e4,v4,g4⟩:=zdz (u:=.lst ((zbt s w L 0 i).map D.int++[.int 0])) (((h.fr _).mv v02).mv v3) ge3;exists e4;left;have v34:Mv [T.len+2,el] T2 T4:=(v3.up (by simp)).trans (v4.up (by simp));have v04:Mv [T.len+2,el] T T4:=(v02.up (by simp)).trans v34;have g12'':=v34.old _ _ (by simp;lia) g12';exists g12'';left;have y4:=y.mvA v04 (by simp;lia);have fz4:T4.frz=[]:=v04.frz.trans h.fz;have lk4:T4.lk=[]:=v04.lk.trans h.lk;refine zbp (λc=>?_) (λc=>?_)
 . rw[length_map]at c
   match hd:dueL s w L i,c with| [k],_=>rw[hd]at g12'';left;exists g12'';left;exists atI_0;left;exists(atI_0:atI [D.int k.1,pD k.2] 0=Φ (.int k.1));left;let⟨T5,e5,v5,g5⟩:=zjL (v:=.int k.1) (h.fr el |>.mv v04) g4;exists e5;left;refine zmy (n:=n) ⟨y4.mvA v5 (by simp;lia),v5.frz.trans fz4,v5.lk.trans lk4,?_,h.lo⟩ hi (d:=T.len+1) (by rw[hd];exact v5.old _ _ (by simp;lia) g12'');rw[zcV,hd,map_append];exact g5
 rw[length_map]at c;left;refine zmy (n:=n) ⟨y4,fz4,lk4,?_,h.lo⟩ hi (d:=T.len+1) g12'';rw[zcV,map_append];rw[show endZ (dueL s w L i)=0 by match hd:dueL s w L i with| []=>rfl| [k]=>rw[hd]at c;exact absurd rfl c|k::k'::r=>rfl];exact g4
def zoW{S:R.St}{l:Nat}{ds:List D}(h:S.get l=Φ (.lst ds)):tyOf S (.ref l)=Φ "list":=by unfold tyOf;dsimp only;rw[h]
def zr4{ns:List Int}{x3 x6:D}{r:Option Int}{el:Nat}{u11 u12 u13:Option D}(h:Lp as a K0 m sd s w kvs L el m T)(m7:m<=7) :
  wS (callF prog (n+6)) lTl (El ns m b s w l x3 x6 r a el u11 u12 u13) T λf U=>f=.rt (.bl Δ):=by
 have y:=h.y;have el7:(zbt s w L 0 m).length=m:=by unfold zbt;simp
 let⟨U,v1,e1⟩:=zfM (n:=n) m7 y;left;exists zar y.ga;left;exists rfl;left;change rfl;left;specialize e1;left;have v2:=v1.trans (Mv.push [] U (.lst ((zbt s w L 0 m).map .int)));have g2:=zae U (.lst ((zbt s w L 0 m).map .int));have ln:=v1.len;have hel:=get_lt h.ge;generalize U.push (.lst ((zbt s w L 0 m).map .int))=V at v2 g2⊢;have ge:=v2.old _ _ (by simp) h.ge;exists zoW g2;left;exists g2;left;refine zal ?_;refine W.of (zbW (λd=>.bl Δ) ((zbt s w L 0 m).map D.int) Ψ (λz hz=>rfl) (λz hz=>?_)) ?_;let⟨q,hq,rfl⟩:=mem_map.mp hz;refine W.eq (wE_W _ ?_);left;specialize(s_lw (n:=n+5));left;exact⟨rfl,rfl⟩;left;change by simp;lia
 left;exists zfk (zbt s w L 0 m) _ (λ_=>rfl);left;exists zcq g2 ge (zeV _ 59 _);left;exists g2;left;exists g2;left;change by simp;lia
 left;let⟨X,e5,v5,g5⟩:=zdz (u:=.lst ((zbt s w L 0 m).map D.int++[.int 0])) (h.fr U.len |>.mv v2) g2;exists e5;left;have o3:=h.lo;have yl:=get_lt y.gL;have y2:=(y.mvA v2 (by simp)).mvA v5 (by simp;lia);let⟨Y,v6,e6⟩:=zfM (n:=n) m7 y2;exists zar y2.ga;left;exists rfl;left;change rfl;left;specialize e6;left;exists zgW (zae _ _) (zah (v6.old _ _ (by simp) (v5.old _ _ (by simp;lia) ge))) (zeV _ 59 _);left
end
def zlH:c_law.body=.asgT [1,2,3,4,5,6] (.call 21 0 #[J0]) (.asgT [7,8] (.call 22 0 #[J0,J2]) (.asg 9 (.mk 1 30 "Signed" 0 #[.mk 2 39 "Setting" 0 #[J1,J2,.mkL (.val J3),.mkL (.val J6)],J4,J5,J7]) (.asg 10 (.lst .nil) (.forS [11] (.rng1 J1) lB lTl)))):=rfl
def law_true(ns:List Int)(hn:ns.length<=63):W (callF prog 7 25 [.fix (ns.map .int)] ⟨[],[],[]⟩) λd _=>d=.bl Δ:=by
 have key:W (exS (callF prog 6) c_law.body (zaR c_law [.fix (ns.map .int)]) ⟨[],[],[]⟩) λf _=>f=.rt (.bl Δ):=by
  let⟨m,b,s,w,hs,ws,cs,Ls,k,ed⟩:=zi9 (n:=2) (S:=⟨[],[],[]⟩) (ns:=ns);let⟨r,l,l18,hr,er⟩:=zk9 (n:=4) (S:=⟨[],[.lst (hs.map .int),.lst (ws.map .int),.lst (cs.map .int),.lst (Ls.map lD)],[]⟩) (ns:=ns) k.b0 k.b5;have m1:=k.m1;have m7:=k.m7;have hl:=k.hl;have ll:=k.ll;rw[zlH];generalize hlp:(CS.forS [11] (.rng1 J1) lB lTl)=loop;refine wS_W _ ?_;left;specialize ed;left;exists show asgG [1,2,3,4,5,6] (.tup [.int (m:Nat),.int b,.ref 0,.int s,.int w,.ref 3]) (zaR c_law [.fix (ns.map .int)])=Φ [Φ (.fix (ns.map .int)),Φ (.int (m:Nat)),Φ (.int b),Φ (.ref 0),Φ (.int s),Φ (.int w),Φ (.ref 3),Ψ,Ψ,Ψ,Ψ,Ψ,Ψ,Ψ] from rfl;left;specialize er;left;exists show asgG [7,8] (.tup [oD r,.int l]) [Φ (.fix (ns.map .int)),Φ (.int (m:Nat)),Φ (.int b),Φ (.ref 0),Φ (.int s),Φ (.int w),Φ (.ref 3),Ψ,Ψ,Ψ,Ψ,Ψ,Ψ,Ψ]=Φ [Φ (.fix (ns.map .int)),Φ (.int (m:Nat)),Φ (.int b),Φ (.ref 0),Φ (.int s),Φ (.int w),Φ (.ref 3),Φ (oD r),Φ (.int l),Ψ,Ψ,Ψ,Ψ,Ψ] from rfl;left;exists(rfl:(⟨[],[.lst (hs.map .int),.lst (ws.map .int),.lst (cs.map .int),.lst (Ls.map lD)],[]⟩:R.St).get 0=Φ (.lst (hs.map .int)));left;change by rw[length_map];lia
  left;exists(rfl:(⟨[],[.lst (hs.map .int),.lst (ws.map .int),.lst (cs.map .int),.lst (Ls.map lD),.lst (hs.map .int)],[]⟩:R.St).get 3=Φ (.lst (Ls.map lD)));left;change by rw[length_map];lia
  left;let S5:R.St:=⟨[],[.lst (hs.map .int),.lst (ws.map .int),.lst (cs.map .int),.lst (Ls.map lD),.lst (hs.map .int),.lst (Ls.map lD),.ins 2 []],[]⟩;have g4:S5.get 4=Φ (.lst (hs.map .int)):=rfl;have g5:S5.get 5=Φ (.lst (Ls.map lD)):=rfl;have g6:S5.get 6=Φ (.ins 2 []):=rfl;have q:=zn0 (n:=0) (m:=(m:Nat)) (b:=b) (x:=.ref 4) (y:=.ref 5) (X:=pD (liZ hs)) (Y:=.tup (Ls.map lD)) g6 ⟨zero_le _,rfl⟩ (by lia) (by lia) k.b0 k.b5 (λT v=>znq (n:=1) (v.old _ _ (by simp) g4) k.hi (by lia)) (λT v=>zpD (n:=0) (v.old _ _ (by simp) g5) k.lk (by lia));have fz0:S5.frz=[]:=rfl;have lk0:S5.lk=[]:=rfl;have le0:S5.len=7:=rfl;refine zcu (q.mono λd U q'=>?_);let⟨q1,q2,q3,q4⟩:=q';subst q1;have fz1:=q2.frz.trans fz0;have lk1:=q2.lk.trans lk0;have le1:=q3.trans le0;change rfl;left;have q:=zqv (n:=2) (as:=6) (a:=U.len) (S:=U.push (.ins 1 [])) (r:=r) m1 m7 k.s0 k.sm k.wd l18.1 l18.2 hr k.lk ll (zae _ _) ⟨by show U.frz.length<=_;rw[fz1];exact zero_le _,by show U.lk.contains _=Θ;rw[lk1];rfl⟩ (zah q4) (by lia) (by show ∀x∈U.lk,_;rw[lk1];simp) (by show U.frz.length<=_;rw[fz1];exact zero_le _);refine zcu (q.mono λd V q'=>?_);let⟨q5,kt,K0,kvs,L,y,L2,lo⟩:=q';subst q5;change rfl;left;right;left;have fz2:V.frz=[]:=kt.frz.trans fz1;have lk2:V.lk=[]:=kt.lk.trans lk1;have yl:=get_lt y.gL;have lp:Lp 6 U.len K0 m (sD m b (pD (liZ hs)) (.tup (Ls.map lD))) s w kvs L V.len 0 (V.push (.lst [])):=⟨y.push _,fz2,lk2,zae _ _,yl⟩;subst hlp;generalize hlt:lTl=tl;left;change by lia
  left;refine zal ?_;refine W.mono (zan (λj δ T=>(∃u11 u12 u13,δ=El ns m b s w l (.ref 0) (.ref 3) r U.len V.len u11 u12 u13)/\Lp 6 U.len K0 m (sD m b (pD (liZ hs)) (.tup (Ls.map lD))) s w kvs L V.len j T) (λ_ _=>False) _ 0 _ _ ⟨⟨Ψ,Ψ,Ψ,rfl⟩,lp⟩ ?_) ?_;rintro j z δ T hz ⟨⟨u11,u12,u13,rfl⟩,h⟩;let⟨hj,rfl⟩:=zjc hz;refine⟨_,rfl,(zr3 (n:=0) (by rw[<-zero_add j];exact h) hj m7 L2 lo).mono λf X hX=>?_⟩;cases f with|rt d=>exact hX.elim| nx δ=>let⟨⟨u12,u13,rfl⟩,h2⟩:=hX;exact⟨⟨_,_,_,rfl⟩,by rw[zero_add];exact h2⟩
  rintro f T h';cases f with
  |rt d=>exact h'.elim| nx δ=>
   let⟨⟨u11,u12,u13,rfl⟩,h⟩:=h';subst hlt;have h:Lp 6 U.len K0 m (sD m b (pD (liZ hs)) (.tup (Ls.map lD))) s w kvs L V.len m T:=by simpa using h
   have e:({T with lk:=(V.push (.lst [])).lk}:R.St)=T:=ze5 (h.lk.trans lk2.symm);rw[e];exact zr4 (n:=0) h m7
 show W (callF prog (6+1) 25 _ _) _;simp![callF,show prog[25]?=Φ c_law from rfl,show([D.fix (ns.map .int)]:List D).length=c_law.np from rfl,show c_law.prim=Ψ from rfl,if_true,zab];refine key.mono λf T hf=>?_;subst hf;rfl
end
end Kz
open PySem PySem.W PyProof.Rows
set_option maxRecDepth 100000 in
set_option maxHeartbeats 0 in
theorem PySem.Challenge.cw_traitorround_k46_what_is_kept_holds : PySem.Challenge.rw_traitorround_k46_what_is_kept.Holds := by
 w_on;o_law;k_head;(case hw=>w_witness2)
 k_fill
 refine L2.walk_of (l:=PySem.Challenge.rw_traitorround_k46_what_is_kept) (n:=63) (k:=14) (x:="_law_script") (CX:=λ_=>L2.CX0) (sp:=λw=>R.spF _ (R.callF Kz.prog 7) 25) rfl (by decide) rfl ⟨rfl,by decide,by decide⟩ (λw h Y=>PySem.W.kIn_of Y) ?F (λ_ _ a ns hl hO hS=>R.law_sp rfl hO hS (Kz.law_true ns hl)) λ_ _ _ _ _ z=>z
 case F=>
  intro w mg fa h KX G hmg;apply R.all_of0 (n:=6) KX G hmg Kz.O40 (le_refl _)
  . (repeat' (first|exact trivial|apply R.AllAtG.cons|apply R.AllInG.cons))
    . apply R.clOk (c:=0) KX G rfl<;>first|k_is|((repeat' (first|exact trivial|apply R.AllAtG.cons|apply R.AllInG.cons))<;>k_is)
    . apply R.clOk (c:=1) KX G rfl<;>first|k_is|((repeat' (first|exact trivial|apply R.AllAtG.cons|apply R.AllInG.cons))<;>k_is)
    . apply R.clOk (c:=2) KX G rfl<;>first|k_is|((repeat' (first|exact trivial|apply R.AllAtG.cons|apply R.AllInG.cons))<;>k_is)
  . (repeat' (first|exact trivial|apply R.AllAtG.cons|apply R.AllInG.cons))<;>k_is
  . (repeat' (first|exact trivial|apply R.AllAtG.cons|apply R.AllInG.cons))<;>(apply R.coOk;k_is)
  . intro base
    (repeat' (first|exact trivial|apply R.AllAtG.cons|apply R.AllInG.cons))
    . apply R.dOk KX G Kz.O27<;>k_is
    . apply R.dOk KX G Kz.O38<;>k_is
    . apply R.dOk KX G Kz.O35<;>k_is
    . apply R.dOk KX G Kz.O26<;>k_is
    . apply R.dOk KX G Kz.O37<;>k_is
    . apply R.dOk KX G Kz.O30<;>k_is
    . apply R.dOk KX G Kz.O36<;>k_is
    . apply R.dOk KX G Kz.O9<;>k_is
    . apply R.dOk KX G Kz.O16<;>k_is
    . apply R.dOk KX G Kz.O39<;>k_is
    . apply R.dOk KX G Kz.O32<;>k_is
    . apply R.dOk KX G Kz.O21<;>k_is
    . apply R.dOk KX G Kz.O13<;>k_is
    . apply R.dOk KX G Kz.O19<;>k_is
    . apply R.dOk KX G Kz.O29<;>k_is
    . apply R.dOk KX G Kz.O33<;>k_is
    . apply R.dOk KX G Kz.O18<;>k_is
    . apply R.dOk KX G Kz.O28<;>k_is
    . apply R.dOk KX G Kz.O34<;>k_is
    . apply R.dOk KX G Kz.O23<;>k_is
    . apply R.dOk KX G Kz.O22<;>k_is
    . apply R.dOk KX G Kz.O12<;>k_is
    . apply R.dOk KX G Kz.O17<;>k_is
    . apply R.dOk KX G Kz.O31<;>k_is
    . apply R.dOk KX G Kz.O25<;>k_is
    . apply R.dOk KX G Kz.O40<;>k_is
  . intro hc
    (repeat' (first|exact trivial|apply R.AllAtG.cons|apply R.AllInG.cons))
    . apply R.mOk (c:=1) hc Kz.O5 rfl rfl<;>k_is
    . apply R.mOk (c:=1) hc Kz.O4 rfl rfl<;>k_is
    . apply R.mOk (c:=0) hc Kz.O8 rfl rfl<;>k_is
    . apply R.mOk (c:=0) hc Kz.O24 rfl rfl<;>k_is
    . apply R.mOk (c:=1) hc Kz.O14 rfl rfl<;>k_is
    . apply R.mOk (c:=1) hc Kz.O10 rfl rfl<;>k_is
    . apply R.mOk (c:=1) hc Kz.O3 rfl rfl<;>k_is
    . apply R.mOk (c:=1) hc Kz.O2 rfl rfl<;>k_is
    . apply R.mOk (c:=0) hc Kz.O15 rfl rfl<;>k_is
    . apply R.mOk (c:=2) hc Kz.O6 rfl rfl<;>k_is
    . apply R.mOk (c:=1) hc Kz.O1 rfl rfl<;>k_is
    . apply R.mOk (c:=1) hc Kz.O0 rfl rfl<;>k_is
  . (repeat' (first|exact trivial|apply R.AllAtG.cons|apply R.AllInG.cons))
    . apply R.iOkD (c:=1) (n:=5) (items:=#[Ω.none]) Kz.O11 rfl (λ_ _ _ _ _ _ _=>usS λ_=>usS λ_=>usS λ_=>usS λ_=>usS λ_=>usZ ⟨_,rfl,rfl⟩) rfl<;>k_is
    . apply R.iOkD (c:=2) (n:=5) (items:=#[Ω.none,Ω.none]) Kz.O7 rfl (λ_ _ _ _ _ _ _=>usS λ_=>usS λ_=>usS λ_=>usS λ_=>usS λ_=>usZ ⟨_,rfl,rfl⟩) rfl<;>k_is
    . apply R.iOk (c:=0) Kz.O20 rfl<;>k_is
  . (repeat' (first|exact trivial|apply R.AllAtG.cons|apply R.AllInG.cons))
  . (repeat' (first|exact trivial|apply R.AllAtG.cons|apply R.AllInG.cons))
  all_goals k_is
end
