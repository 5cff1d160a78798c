import PyProof.Rows.All
import Wide.All
import OpenK.AllK
import Wide.FinOn
import Lean
import PyProof.EqAt
import PyProof.EqKinds
import PyProof.TupleCall
import PyProof.P3Statements
import PySem.Syntax
import PyProof.Dict
import PyProof.StationsW
import PyProof.ExcClass3
import PyProof.ExcInit
import PyProof.ExcAttrAll.ValueError
import OpenK.KMake
import OpenK.KWalk
import KE.KIsAll
import OpenK.KOwn
import KE.KTryMore
import PyProof.RulesAs
import PyProof.NsDelKeeps
import PySem.Challenge.RW_traitorround_k79_short_floods
set_option Elab.async false
set_option linter.all false
set_option maxHeartbeats 4000000
set_option maxRecDepth 100000
set_option bootstrap.genMatcherCode false
set_option genInjectivity false
set_option genSizeOf false
set_option genSizeOfSpec false
local macro_rules|`(command|def $n:declId $b:bracketedBinder* : $t $v:declVal)=>`(command|theorem $n:declId $b:bracketedBinder* : $t $v:declVal)
local macro_rules|`(command|abbrev $n:declId $s:optDeclSig $v:declVal)=>`(command|noncomputable def $n:declId $s:optDeclSig $v:declVal)
local macro_rules|`(tactic|simp! [$x,*] $[$l]?)=>`(tactic|simp only [$x,*] $[$l]?)
local macro_rules|`(tactic|let ⟨$x,*⟩:=$e)=>do let N:=fun (k:Lean.Name) a=>Lean.Syntax.node .none (`Lean.Parser.Tactic++k) a;let O:=fun a=>Lean.mkNullNode a;let M:=fun p=>N `rcasesPatMed #[O #[p]];return N `obtain #[Lean.mkAtom "",O #[M ((← `(⟨$x,*⟩)).raw.rewriteBottomUp fun s=>if s.isIdent then N `rcasesPat.one #[s] else match s with|.node _ k a=>if k==`Lean.Parser.Term.hole then N `rcasesPat.ignore a else if k==`Lean.Parser.Term.anonymousCtor then N `rcasesPat.tuple #[a[0]!,O (a[1]!.getArgs.mapIdx fun i p=>if i%2==0 then N `rcasesPatLo #[M p,O #[]] else p),a[2]!] else s|_=>s)],O #[],O #[Lean.mkAtom "",O #[e]]]
open Option renaming some→Φ,none→Ψ,bind_some→Ϛ
open Bool renaming true→Γ,false→Δ,and_eq_true→Ε,false_ne_true→Κ,or_eq_true→ϙ,not_eq_true'→Ϡ
open PySem renaming wpAny_bind→Θ,Value→Ξ,wpAny_pure→Ω,Shared→Ζ,Program→Ο,wpAny_mono→Τ,sizeLine_eq→Χ,World→ϋ,wpAny_newObj_type→ό,wpAny_Call_Name_kw→ώ,Around→ϐ,wpAny_holding→ϓ,codeAny_mono→ϕ,wpAny_call_entry→ϗ,wpAny_truthy_bool→Ϙ,codeAny_builtin→ϝ,wpAny_call→ϟ,wpAny_field→ϣ
open PySem.Heap renaming get?_push_of_some→Λ,lt_size→Β,get?_push_size→Ι,get?_update_other→Ρ,get?_update_self→ϑ,size_push→ϔ
open List renaming getElem?_eq_some_iff→Α,getElem?_eq_getElem→Η,mem_cons_of_mem→Μ,mem_cons_self→Ν,map_cons→Υ,length_cons→ϊ,prefix_append→ύ,map_map→ϒ,prefix_refl→ϛ,mapM_cons→Ϝ,append_nil→Ϟ,contains_cons→Ϣ,all_cons→Ϥ
open Nat renaming lt_succ_self→ϖ,lt_succ_of_lt→ϡ
def qa1{a b:Bool}(h:(a&&b)=Γ):a=Γ/\b=Γ:=(Bool.and_eq_true a b).mp h
def qd1{p:Prop}[Decidable p]{b:Bool}(h:(decide p&&b)=Γ):p/\b=Γ:=(qa1 h).imp_left of_decide_eq_true
def qb1{α:Type}[BEq α][LawfulBEq α]{x y:α}{b:Bool}(h:(x==y&&b)=Γ):x=y/\b=Γ:=(qa1 h).imp_left eq_of_beq
def qL{a b:Bool}{p:Prop}(f:a=Γ->p)(h:(a&&b)=Γ):p/\b=Γ:=(qa1 h).imp_left f
open Bool (and_eq_true not_eq_true' or_eq_true)
open Nat (le_of_eq le_of_lt le_refl le_succ le_trans lt_irrefl lt_of_lt_of_le lt_succ_of_lt lt_succ_self lt_trans ne_of_gt ne_of_lt zero_add zero_le)
open List (Pairwise all_cons all_eq_true any_cons append_assoc append_nil contains_cons ext_getElem? flatten_cons getElem?_append_left getElem?_append_right getElem?_map getElem?_set getElem?_set_ne getElem?_set_self isEmpty_iff length_append length_cons length_eq_zero_iff length_map length_nil length_replicate lookup_cons mapM_cons map_append map_cons map_nil mem_append mem_append_left mem_append_right mem_cons mem_cons_of_mem mem_cons_self mem_filter mem_iff_getElem? mem_map mem_of_getElem? mem_range mem_singleton nodup_append nodup_cons not_mem_nil of_mem_zip pairwise_cons pairwise_map prefix_append prefix_refl replicate_succ size_toArray)
open PySem.W (KatTups callWith_K callWith_K0 cellsFrom_some codeHdIn codeIn emptyDict findCls fnOf handedIn instObj isFn kat_cons kat_no kat_one keepIn kia_one kitOne kitx_dict kitx_list kla_fn kla_obj lookIn makesIn methodObj mg_of nsIn plainGet plainGet_of plainOver readsIn specialIn tabObj takerIn takesIn)
open Option (bind_some)
open Array (length_toList)
open Int (emod_nonneg)
structure PySem.W.Fast:Prop where(tw10141622366800697877 tw10339352453722249232 tw10372962015736244471 tw10481758170907709479 tw10536496749274066282 tw10557811188245685568 tw10826903361177814550 tw10846756184293757389 tw11015214555711987582 tw11158505563484354776 tw1123285366855566722 tw11357016985748496174 tw11877240689060209970 tw12027987581793293901 tw12100279060664798712 tw12135972053398553317 tw12653563987940431153 tw12685427616437756167 tw13144229692141789545 tw13208006453155507179 tw13217195603601232016 tw13248888752948645897 tw13457890397809557372 tw14100847912528408081 tw1445327326211974834 tw14459677617477514371 tw14478450044748560603 tw14702622707285566358 tw14853320607770789144 tw14972838200489807760 tw15247365414141306596 tw15329588290613105575 tw15426901196267080417 tw1543792373381470014 tw15521927669177035417 tw15596617186316854195 tw15793190091264396650 tw16009691608804574294 tw16526166920206082148 tw1654875794614679799 tw16705008380478247226 tw16956163230997462597 tw16992026252429267262 tw17141750669813439549 tw17216802600041012280 tw17304736187810399433 tw17432210913730611694 tw17552215893985088103 tw17689633500281143767 tw1793669758694614447 tw18111552953821690425 tw18265435176396587238 tw18283868755229126768 tw18334577223591270163 tw18426693099064865037 tw18442756589754220249 tw1854195832591719994 tw1891146584636681782 tw2004418692534549778 tw2022496683615670619 tw2092981783374234355 tw230861658565223758 tw250702673029105902 tw2726898703064873827 tw3068734093041600952 tw3366511140761708021 tw3528457102772791231 tw3801304394020204023 tw3914955568665904071 tw4034189786750172438 tw4069707740662918044 tw4309137330318657922 tw4319332069409128144 tw4600000062761445236 tw4609786931905916416 tw4727297355914880656 tw4757053836813669430 tw4838755707627994883 tw4877747287098755381 tw4886256048381744665 tw4964606058802654682 tw499974578082567220 tw5009309365197301751 tw5026182874574968378 tw5737002858029099980 tw5844458068849219329 tw6058614951387926589 tw6064909610622283228 tw6125492920940631213 tw6130144741109794242 tw6380639099059574733 tw6479164780521760097 tw6746188108248995922 tw6813667461605296853 tw6980163059124918875 tw7185234409225198319 tw7279756442892014154 tw7495348553495034612 tw7612167882354818982 tw7651587031392371589 tw7666329607618460450 tw7771437628119076262 tw7841692622679284466 tw7899217543673255891 tw8164856630355682642 tw8197666104228845348 tw8767786307358916869 tw8786097887543105539 tw8953380411982596217 tw8983327103744553721 tw9028896261257622779 tw9076970057397133380 tw9147205261026729894 tw9154113919245257424 tw9176321118866884300 tw9348581822891054793 tw9560734562348190147 tw9623947586175551913 tw9647351891671653221 tw9651779030659560109 tw994778298508818396 tw9982644961140905946 tw15286246678605919447 tw11568104337007564787 tw11466215835026188527 tw14114015231320705898 tw14524910079881789251 tw14529896003124615931 tw16249076098194679219 tw16270294118106821208 tw18307239180477188774 tw3527379607467869086 tw3845162674960443490 tw4082052054115470579 tw7625062739878105156 tw9877866037935603462 tw12129750105365154907 tw14632042596809240691 tw15824313199466276298 tw16849227421694327270 tw17941184372951225529 tw18076565805943379983 tw2150273237001719579 tw7650960213820691519 tw9576410949321739729 tw8371057714271723570 tw11402899198990663594 tw12950533788988391084 tw15753481469078041287 tw17791869014665163111 tw2735246795411672165 tw3535541421698147817 tw4524780866756153134 tw4618689702258570448 tw4973467625964978143 tw7907156308065310134 tw8683011498328927612 tw9811426769910678331 tw11529703356292362770 tw12232911895797257171 tw13002247370175997569 tw14213607585946510606 tw14711038513149132207 tw15714047261320165269 tw177336930438331245 tw3373703267672231814 tw5711474049077021590 tw6362873247530509791 tw648067128658280812 tw74913654662756351 tw11498012428095945620 tw3152989843106874502 tw18394522204654689305 tw3329059808778261419 tw11230828193745502965 tw13939379998148504428 tw14743536500796039663 tw14810404645816168170 tw1639257642399480839 tw17871178443822831263 tw18255093390777039106 tw6399962557531535726 tw6785565646733420556 tw6987598775263474462 tw8253719085990060268 tw12816392386834657144 tw13413730161072875168 tw4412286496043247356 tw8096911344868840197 tw8891113017635002097 tw15696163082304976117 tw16663695871538448936 tw9097813682326633547 tw13136554705185306802 tw11083147941801111844 tw1587062508053055985 tw9057380764125879177 tw17098492217777805004 tw472489969298366817 tw10740736928086110368 tw15775085803836052378 tw1024245426087560116 tw17785187524461027307 tw1804898094530188903 tw10806945761319111811 tw12382358383586835076 tw14521467376126776385 tw18434175853149328037 tw378909737598186847 tw555437316345653447 tw957697965445418001 tw15205494349303425475 tw6812119096209960280 tw8134093518637894157 tw16377394258614203090 tw7079309722164320839 tw8742289445657950361 tw3743798046424164660 tw18163199796508386587 tw2144972283110121090 tw3020951439689735030 tw15715339742384530282 tw580395156617031491 tw13799529141483288638 tw15527212925281814174 tw18416986859025253633 tw4321711061327915503 tw6411512032568022301 tw14644630201944073457 tw3854993667102412377 tw4233957763478741953 tw8776357393244003342 tw10095729970591964002 tw15492955945165434952 tw9120000303461589637 tw14052600901874483226 tw11952288811005546075 tw12764249742538498631 tw16041705641779186518 tw14586062381233298161 tw17933305373523005633 tw7729313924681117913 tw10660771775765782030 tw13807920574226904528 tw223365163229192316 tw4664197647342750806 tw3447066865723040473 tw7977165305976268658 tw7979710308767245316 tw11578985547522514607 tw14908035522659104790 tw4161281392328673226 tw6203179780728070057 tw10427672427984327305 tw15312454664994996190 tw15741815795541829457 tw7756006532142703760 tw14942097091866801537 tw15326385053487896721 tw9669110802528562676 tw17507261993309540861 tw118119014106971557 tw11996322713637592034 tw4339175802029311996 tw8850092978029826515 tw17022347770808618008 tw8840077193079681727 tw12572840666662060453 tw3022629891376107479 tw14345778260845471267 tw8822356747618225187 tw18396009376094005372 tw2876059232293055682 tw3365859562791837316 tw2288818457280046564 tw14340734375069453418 tw3338015898201551792 tw15828834423672316486 tw18405681975707775384 tw6754070829161201885 tw13151451338121316039 tw18097621048552331071 tw8726794410650004846 tw16055954577598655081 tw2822650329427635372 tw15226006510496577170 tw10770445787710072960 tw5239080306143457160 tw5434216372594304658 tw6826352931152882031 tw12947414876042677155 tw11162760309622925927 tw14246724688400823962 tw2868861484951141005 tw17499488968544177153 tw13901958724653959451 tw17994363704358306597 tw3727153170419232705 tw7257783675508826223 tw11427130521459341151 tw12791455226631566747 tw7147229296450998999 tw15973358538211429976 tw14449881310797560825 tw15780156262383370638 tw15805888849538745005 tw12594401769694121114 tw14044519471035755368 tw18281150108937411084 tw8838457879440237638 tw15538818129544129595 tw5834367253060541181 tw7999927562279645905 tw3095430158983141231 tw9910751181348060711 tw15810901958243768825 tw12028750061378750751 tw12230079223685257426 tw13304552051182306153 tw8097442434424471271 tw15082025260358012314 tw16010134774620005237 tw4388277691843179942 tw6675986949666015783 tw7399545042044251305 tw4439786308881668774 tw7582485331502392585 tw1341759166718112990 tw14754441376509620863 tw8959085836147659343 tw12330566045064673839 tw9649458958223766688 tw2950632107844471359 tw11255616905105329345 tw5434394018767770324 tw11485618953975550558 tw18266663194774856882 tw14867358016110513920 tw12615543002443517086 tw1961996013339991950 tw733027427793874763 tw11804632119890549189 tw5830184517948564018 tw3171641911856793466 tw11212278947897902109 tw3662300903308098088 tw571202031115481630 tw7616342602415155506 tw11498967240523065538 tw906065439171231352 tw12567445649905053831 tw17663302183322164479 tw8852324911264401244 tw11096738157624437569 tw17097099844019993140 tw18260219522598420266 tw4131280007273758652 tw6603190415281141218 tw228136808061362021 tw12616475229136679729 tw9475506587739349183 tw4222588881307646359 tw3275941834257671798 tw13431093644386857206 tw10333384965144316573 tw14305820501125711175 tw2547245051978609792 tw14548080025097105988 tw13144130184119535497 tw133598162927466910 tw3439301086911207974 tw11185162949594125547 tw13295128575398329755 tw15552097093655012296 tw16223152416627728691 tw15070259873205943050 tw18291558056529479890 tw12220985351600475366 tw1923162920200046084 tw3956859970127412622 tw13876227502054376849 tw15635400326530550257 tw4538687605958474168 tw640437481339453858 tw3461838059991013074 tw9911946344350531344 tw14462924550945307010 tw4196958464910869708 tw423667460746419388 tw17329566143655906983 tw1281688361144166655 tw736980700697962987 tw16203529732593677764 tw5734166125712008719 tw12861307568328976894 tw12595186515514673307 tw8922970924578241835 tw5776284564799237703 tw4816082731471645384 tw3852376599968798606 tw1299022215623997724 tw12040902513320843597 tw11698919576425400024 tw10854227964949235573 tw6104614119593727772 tw11916814768694529049 tw16903738692490684407 tw4919151301424611819 tw15633818928340903591 tw4501999888424238736 tw4515737734380692615 tw16444870295476438424 tw9346415051998463595 tw14921617296042855323 tw14457177292722933740 tw16985213704868734023 tw7814289839821231830 tw15720102937603279574 tw17936475627907624609 tw11379555459680674627 tw11650066429249818982 tw8810361204071567463 tw2259717840394700161 tw8257522601878020838 tw9756627379848044229 tw1192406102819435148 tw16749609098329020634 tw795847924234295160 tw10728813162757060800 tw16147801355424480813 tw18102671693993800085 tw9478602724853217004 tw1574793039387466396 tw6379426867945691233 tw17591493098600347103 tw1162327922453340322 tw992275127478382854 tw4124542613751078351 tw17747797977623794565 tw9944927022274342328 tw12713839287654891612 tw9349361891786970388 tw1943459426077472672 tw17026757942664615791 tw17753460190831554888 tw4139745377949647198 tw7799044111495088315 tw6534365251030761430 tw14729673046706515938 tw8376058935967542632 tw7733901666676462208 tw7025729597021707880 tw17972022121004034817 tw1527785629293604679 tw13762858533793478525 tw14226169351676777254 tw215643839805780679 tw6267298822503289171 tw13938661444171757147 tw11708745701353450466 tw12838723659139975060 tw11477144297612451843 tw8422455521173471388 tw13648975463297781853 tw14320476985846592678 tw743316309828292885 tw11121207477214963343 tw16383286303467203298 tw18080845985754499698 tw8735598660434911741 tw15025164959305871994 tw3758780954558342795 tw13986474835671723566 tw7985645971874453504 tw8796422946153072241 tw13561475870626627214 tw11395424865823403602 tw6097968361536826804 tw13752805127372532468 tw5328504065353380829 tw8007708612264266417 tw5172249511468502372 tw8034692159122987910 tw12188059314550385789 tw10434345669716343552 tw10739589533396821049 tw2938279265079816738 tw9576411992897039850 tw806485189841694847 tw17478192742571129030 tw8155659811629602267 tw3229786337555303676 tw7535497419666810259 tw11817153877646209790 tw7289425963440630770 tw8029324364729151012 tw12017232604421548892 tw13865056246905202096 tw10284222916589365486 tw102491463637100016 tw3975669920766793658 tw15277527386273866444 tw14250115844537421494 tw9498092443776355678 tw12597231567185280655 tw8138214074145466092 tw5902411497895891731 tw287525741049951392 tw14938079643202955865 tw13202221892006307606 tw18037827810570457726 tw10696658840762635857 tw6427623631473331328 tw17083093140927844596 tw5148342670172383259 tw2013446688980510209 tw5716372796377643870 tw12559144122152993550 tw5263520905103056885 tw6492786368462491945 tw10356394591984716791 tw6862529319821515955 tw5900359035349005793 tw5008629696473370011 tw16305477902103111112 tw13010849057238375103 tw6419818386604512179 tw6789269640674510514 tw620357776008823833:True)
def nS{α:Type _}{a:α}{P:Prop}(h:Ψ=Φ a):P:=by cases h
def nB{P:Prop}(h:Δ=Γ):P:=by cases h
def usS{b:Type}{P:List b->Prop}(h:∀a,∀us:List b,us.length=n->P (a::us)):∀us:List b,us.length=n+1->P us:=λus e=>by cases us with|nil=>cases e|cons a us=>exact h a us (Nat.succ.inj e)
def usZ{a:Type}{P:List a->Prop}(h:P []):∀us:List a,us.length=0->P us:=λus e=>by cases us with|nil=>exact h|cons=>cases e
def eY{α β:Type _}{p q r:α->β->Prop}{P:Prop}(h:∃a b,p a b/\q a b/\r a b)(k:∀a b,p a b->q a b->r a b->P):P:=h.elim λa h=>h.elim λb h=>k a b h.1 h.2.1 h.2.2
namespace L2
open PySem PySem.Spec PyProof.Rows
@[reducible]def Key:=Sum Int Str
abbrev zfN:Key->Ξ->Bool
 |.inl k,v=>Ξ.isInt k v|.inr x,v=>Ξ.isStrOf x v
abbrev keyH(w:ϋ):Key->Int
 |.inl k=>hashInt k|.inr x=>hashStr w x
def zaB:∀{k:Key}{v:Ξ},zfN k v=Γ->(∃i t,k=Sum.inl i/\v=Ξ.int i t)\/(∃x t,k=Sum.inr x/\v=Ξ.str x t)
 |.inl i,v,h=>by let⟨t,e⟩:=Ξ.isInt_shape h;exact .inl ⟨i,t,rfl,e⟩| .inr x,v,h=>by let⟨t,e⟩:=Ξ.isStrOf_shape h;exact .inr ⟨x,t,rfl,e⟩
def zke(i)(t):zfN (.inl i) (.int i t)=Γ:=by simp[zfN,Ξ.isInt]
def zkd(x)(t):zfN (.inr x) (.str x t)=Γ:=by simp[zfN,Ξ.isStrOf]
def zr3(a b):decide ((Sum.inl a:Key)=Sum.inl b)=(a==b):=by by_cases e:a=b;subst e;simp;have h:¬(Sum.inl a:Key)=Sum.inl b:=λq=>e (Sum.inl.inj q);rw[decide_eq_false h];exact(beq_eq_false_iff_ne.mpr e).symm
def zr0(a b):decide ((Sum.inr a:Key)=Sum.inr b)=decide (a=b):=by by_cases e:a=b;simp;have h:¬(Sum.inr a:Key)=Sum.inr b:=λq=>e (Sum.inr.inj q);rw[decide_eq_false h,decide_eq_false e]
def zr2(a)(b):decide ((Sum.inl a:Key)=Sum.inr b)=Δ:=decide_eq_false (λq=>by cases q)
def zr1(a)(b):decide ((Sum.inr a:Key)=Sum.inl b)=Δ:=decide_eq_false (λq=>by cases q)
abbrev zat(prog:Ο)(w:ϋ):PySem.KeyKind prog w Key where
 is:=zfN
 hash:=keyH w
 inj:=λv a b g f=>by rcases zaB g with⟨i,t,rfl,rfl⟩|⟨x,t,rfl,rfl⟩;rcases zaB f with⟨j,u,rfl,e⟩|⟨y,u,rfl,e⟩;injection e with c _;rw[c];exact nomatch e;rcases zaB f with⟨j,u,rfl,e⟩|⟨y,u,rfl,e⟩;exact nomatch e;injection e with c _;rw[c]
 byValue:=λk v h=>by rcases zaB h with⟨i,t,rfl,rfl⟩|⟨x,t,rfl,rfl⟩<;>rfl
 pyHash:=λd h=>by rcases zaB d with⟨i,t,rfl,rfl⟩|⟨x,t,rfl,rfl⟩;exact wpAny_pyHash_int h;exact wpAny_pyHash_str h
 eqBool:=λl d h=>by rcases zaB l with⟨i,t,rfl,rfl⟩|⟨x,t,rfl,rfl⟩;rcases zaB d with⟨j,u,rfl,rfl⟩|⟨y,u,rfl,rfl⟩;rw[zr3]at h;exact wpAny_eqBool_int h;rw[zr2]at h;exact SeqAt.EqAt.int_str i t y u _ _ _ _ h;rcases zaB d with⟨j,u,rfl,rfl⟩|⟨y,u,rfl,rfl⟩;rw[zr1]at h;exact SeqAt.EqAt.str_int x t j u _ _ _ _ h;rw[zr0]at h;exact wpAny_eqBool_str h
 «strs»:=λk x t v h=>by
  rcases zaB h with⟨i,u,rfl,e⟩|⟨y,u,rfl,e⟩;exact nomatch e
  . injection e with c _;subst c;cases v<;>rfl
def zgG(prog)(w)(i)(t):(zat prog w).is (.inl i) (.int i t)=Γ:=zke i t
def zgF(prog)(w)(x)(t):(zat prog w).is (.inr x) (.str x t)=Γ:=zkd x t
set_option genInjectivity true in
inductive V where
 |non|bl (b:Bool)|int (i:Int)|str (x:Str)|byt (b:Array UInt8)|flt (b:UInt64)|ref (a:Addr)|ty (n:String)
 deriving DecidableEq
abbrev RelV:V->Ξ->Prop
 |.non,u=>u=Ξ.none|.bl b,u=>u=Ξ.bool b|.int i,u=>∃t,u=Ξ.int i t|.str x,u=>∃t,u=Ξ.str x t|.byt b,u=>∃t,u=Ξ.bytes b t|.flt b,u=>∃t,u=Ξ.float b t|.ref a,u=>u=Ξ.ref a|.ty n,u=>u=Ξ.type n
@[reducible]def Vals:List V->List Ξ->Prop:=Paired RelV
def Vals.length(r:Vals xs us):xs.length=us.length:=Paired.length r
def Vals.get:∀{xs:List V}{us:List Ξ}{i:Nat}{x:V},Vals xs us->xs[i]?=Φ x->∃u,us[i]?=Φ u/\RelV x u
 |_,_,_,_,.nil,e=>by simp at e|_,_,0,_,.cons r _,e=>by simp at e;subst e;exact⟨_,rfl,r⟩| _,_,i+1,x,.cons _ t,e=>by let⟨u,a,b⟩:=Vals.get t (by simpa using e);exact⟨u,by simpa using a,b⟩
def Vals.set(r:RelV x u):∀{xs:List V}{us:List Ξ}(i:Nat),Vals xs us->Vals (xs.set i x) (us.set i u)
 |_,_,_,.nil=>.nil|_,_,0,.cons _ t=>.cons r t|_,_,i+1,.cons q t=>.cons q (Vals.set r i t)
def Vals.append:∀{xs ys:List V}{us a:List Ξ},Vals xs us->Vals ys a->Vals (xs++ys) (us++a)
 |_,_,_,_,.nil,s=>s|_,_,_,_,.cons r t,s=>.cons r (Vals.append t s)
def Vals.take:∀{xs:List V}{us:List Ξ}(n:Nat),Vals xs us->Vals (xs.take n) (us.take n)
 |_,_,0,_=>.nil|_,_,_+1,.nil=>.nil|_,_,n+1,.cons r t=>.cons r (Vals.take n t)
def Vals.drop:∀{xs:List V}{us:List Ξ}(n:Nat),Vals xs us->Vals (xs.drop n) (us.drop n)
 |_,_,0,r=>r|_,_,_+1,.nil=>.nil|_,_,n+1,.cons _ t=>Vals.drop n t
abbrev RelO:Option V->Option Ξ->Prop
 |some v,Φ u=>RelV v u|none,Ψ=>True|_,_=>False
abbrev KV{a:Type}:List (a×V)->List (a×Ξ)->Prop:=Paired λ(p:a×V) (q:a×Ξ)=>p.1=q.1/\RelV p.2 q.2
abbrev kV:Key->V
 |.inl i=>.int i|.inr x=>.str x
inductive HO where
 |lst (xs:List V)
 |tup (xs:List V)
 |dK (kvs:List (Key×V))|dT (kvs:List (List Key×V))
 |set (S:Int->Bool) (n:Nat)
 |ins (C dx:Addr) (fs:List (Str×V))
 |own (x:Addr)
 |xd (fs:List (Str×V))
 |met (f x:Addr)
 |rng (lo hi:Int)
 |frz (o:Obj) (u:HO)
 |tbl (ps:Array Ξ)
 |ext (φ:Heap->Prop)
@[reducible]def Hp:=Addr->Option HO
abbrev upd(H:Hp)(a:Addr)(o:HO):Hp:=λb=>if b=a then Φ o else H b
def zag:upd H a o a=Φ o:=by unfold upd;rw[if_pos rfl]
def zaf(h:b≠a):upd H a o b=H b:=by unfold upd;rw[if_neg h]
def znz:upd (upd H a o) a u=upd H a u:=by funext b;unfold upd;split<;>rfl
def ne_of{H:Hp}(h:H a=Φ o)(h':H b=Φ u)(d:o≠u):a≠b:=by intro e;subst e;rw[h]at h';exact d (Option.some.inj h')
def zam{H:Hp}(h:H a=Φ o)(h':H b=Ψ):a≠b:=by intro e;subst e;rw[h]at h';cases h'
section
variable(P:Ο)(w:ϋ)
abbrev ObjOk(H:Hp)(h:Heap)(a:Addr):HO->Prop
 |.lst d=>d.length<=sizeLine/\∃(b:List Ξ) (n:Nat),Vals d b/\h.get? a=Φ {cls:=.type "list",data:=.seq b.toArray n}|.tup d=>d.length<=sizeLine/\∃b:List Ξ,Vals d b/\IsTup h a b.toArray|.dK c=>c.length<=sizeLine/\(a==sysModules)=Δ/\∃k,KV c k/\h.DictOf (zat P w) a k
 |.dT c=>c.length<=sizeLine/\(a==sysModules)=Δ/\∃d:List (List Key×Addr×Ξ),
  Paired (λ(p:List Key×V) (q:List Key×Addr×Ξ)=>p.1=q.1/\H q.2.1=Φ (.tup (p.1.map kV))/\RelV p.2 q.2.2) c d/\
  ∃o l s,h.get? a=Φ o/\o.ExactDict/\o.data=.dict l s/\l.toList=d.map (entryOfKey (tupleKind (zat P w)))/\(d.map (·.1)).Nodup
 |.set S n=>h.SetOf (intKind P w) a S n
 |.ins C i g=>H i=Φ (.own a)/\g.length<=1000/\i≠a/\h.get? a=Φ (instObj C i)/\
  ∃e,h.Ns1 i e/\(∀f,RelO (g.lookup f) (e f))/\PySem.Within e (g.map (·.1))
 |.own _=>∃o,h.get? a=Φ o|.xd g=>∃e,h.Ns1 a e/\∀f,RelO (g.lookup f) (e f)|.rng lo y=>∃t u v,h.get? a=Φ {cls:=.type "range",data:=.fields #[.int lo t,.int y u,.int 1 v]}|.frz o u=>h.get? a=Φ o/\ObjOk H h a u|.tbl z=>h.get? a=Φ {cls:=.none,data:=.fields z}|.met f x=>h.get? a=Φ (methodObj (.ref f) (.ref x))|.ext j=>j h/\(∃o,h.get? a=Φ o)/\∀m r:Heap,j m->(∀o,m.get? a=Φ o->r.get? a=Φ o)->j r
abbrev HOk(H:Hp)(h:Heap):Prop:=∀a o,H a=Φ o->ObjOk P w H h a o
end
section
variable{P:Ο}{w:ϋ}{H H':Hp}{h h':Heap}{a:Addr}{o:HO}
def ObjOk.lt(x:ObjOk P w H h a o):a<h.objs.size:=by cases o with|lst c=>let⟨_,_,_,_,e⟩:=x;exact Β e|tup c=>let⟨_,_,_,p⟩:=x;exact p.lt|dK b=>let⟨_,_,_,_,o,_,_,e,_⟩:=x;exact Β e|dT b=>let⟨_,_,_,_,o,_,_,e,_⟩:=x;exact Β e|set S n=>let⟨o,_,_,_,e,_⟩:=x;exact Β e|ins C g d=>let⟨_,_,_,e,_⟩:=x;exact Β e|own y=>let⟨_,e⟩:=x;exact Β e|xd d=>let⟨_,⟨_,_,_,e,_⟩,_⟩:=x;exact Β e|rng lo i=>let⟨_,_,_,e⟩:=x;exact Β e|frz j u=>let⟨e,_⟩:=x;exact Β e|tbl k=>exact Β (show h.get? a=Φ _ from x)|met f y=>exact Β (show h.get? a=Φ _ from x)|ext l=>let⟨_,⟨_,e⟩,_⟩:=x;exact Β e
def Paired.mapP{c:List e}{d:List g}(h:Paired F c d)(f:∀a b,F a b->G a b):Paired G c d:=by induction h with|nil=>exact .nil|cons r _ i=>exact .cons (f _ _ r) i
def ObjOk.stay(x:ObjOk P w H h a o)(k:∀b u,(b=a\/H b=Φ (.own a))->h.get? b=Φ u->h'.get? b=Φ u)
  (E:∀b,H b=Φ (.own a)->H' b=Φ (.own a)) (G:∀b xs,H b=Φ (.tup xs)->H' b=Φ (.tup xs)):ObjOk P w H' h' a o:=by
 induction o with|lst xs=>let⟨z,l,n,r,e⟩:=x;exact⟨z,l,n,r,k _ _ (.inl rfl) e⟩|tup xs=>let⟨z,l,r,g,e,c⟩:=x;exact⟨z,l,r,g,k _ _ (.inl rfl) e,c⟩|dK m=>let⟨z,y,I,r,g,i,j,e,c⟩:=x;exact⟨z,y,I,r,g,i,j,k _ _ (.inl rfl) e,c⟩| dT m=>let⟨z,y,xs,r,g,i,j,e,c⟩:=x;exact⟨z,y,xs,Paired.mapP r λp q z=>⟨z.1,G _ _ z.2.1,z.2.2⟩,g,i,j,k _ _ (.inl rfl) e,c⟩|set S n=>let⟨g,i,j,t,e,c⟩:=x;exact⟨g,i,j,t,k _ _ (.inl rfl) e,c⟩| ins C O J=>let⟨d,z,L,e,s,⟨A,i,j,M,c⟩,r⟩:=x;exact⟨E _ d,z,L,k _ _ (.inl rfl) e,s,⟨A,i,j,k _ _ (.inr d) M,c⟩,r⟩|own y=>let⟨g,e⟩:=x;exact⟨g,k _ _ (.inl rfl) e⟩|xd J=>let⟨s,⟨A,i,j,e,c⟩,r⟩:=x;exact⟨s,⟨A,i,j,k _ _ (.inl rfl) e,c⟩,r⟩|rng lo Q=>let⟨t,u,v,e⟩:=x;exact⟨t,u,v,k _ _ (.inl rfl) e⟩|frz g u N=>let⟨e,q⟩:=x;exact⟨k _ _ (.inl rfl) e,N q⟩| tbl B=>have e:=x;exact k a _ (.inl rfl) e| met f y=>have e:=x;exact k a _ (.inl rfl) e|ext T=>let⟨p,⟨o,e⟩,st⟩:=x;exact⟨st _ _ p λo q=>k _ _ (.inl rfl) q,⟨o,k _ _ (.inl rfl) e⟩,st⟩
def HOk.lt(x:HOk P w H h)(e:H a=Φ o):a<h.objs.size:=(x a o e).lt
def HOk.fresh(x:HOk P w H h)(e:h.objs.size<=a):H a=Ψ:=by cases q:H a with|none=>rfl|some u=>exact absurd (lt_of_lt_of_le (x.lt q) e) (lt_irrefl _)
def HOk.kept(x:HOk P w H h)(k:∀b u,h.get? b=Φ u->h'.get? b=Φ u):HOk P w H h':=λa o e=>(x a o e).stay (λb u _ q=>k b u q) (λ_ q=>q) λ_ _ q=>q
def HOk.laid(x:HOk P w H h)(k:∀b u,h.get? b=Φ u->h'.get? b=Φ u)(g:h.objs.size<=a)(new:ObjOk P w (upd H a o) h' a o):HOk P w (upd H a o) h':=λb u e=>by have d:=x.fresh g;by_cases f:b=a;subst f;rw[zag]at e;cases e;exact new;rw[zaf f]at e;exact(x b u e).stay (λc v _ q=>k c v q) (λc q=>by rw[zaf (zam q d)];exact q) λc i q=>by rw[zaf (zam q d)];exact q
end
abbrev Rd(H:Hp)(a:Addr)(u:HO):Prop:=H a=Φ u\/∃o,H a=Φ (.frz o u)
def Rd.of(h:H a=Φ u):Rd H a u:=.inl h
def Rd.ok(r:Rd H a u)(x:HOk P w H h):ObjOk P w H h a u:=by rcases r with r|⟨o,r⟩;exact x a u r;let⟨_,q⟩:=x a _ r;exact q
abbrev Mut:Option HO->Prop
 |some (.lst _)=>True|some (.dK _)=>True|some (.dT _)=>True|some (.set _ _)=>True|some (.ins _ _ _)=>True|some (.ext _)=>True|_=>False
section
variable{P:Ο}{w:ϋ}{H:Hp}{h h':Heap}{x e:Addr}{o':HO}
def HOk.write(ok:HOk P w H h)(g:Mut (H x))(n:e=x\/H e=Φ (.own x))(k:∀b u,b≠e->h.get? b=Φ u->h'.get? b=Φ u)(m:∃u,h'.get? e=Φ u)
  (new:ObjOk P w (upd H x o') h' x o'):HOk P w (upd H x o') h':=λb u q=>by
 have d:∀c y,H c=Φ (.own y)->c≠x:=λc y r z=>by subst z;rw[r]at g;exact g
 have f:∀c i,H c=Φ (.tup i)->c≠x:=λc i r z=>by subst z;rw[r]at g;exact g
 by_cases j:b=x;subst j;rw[zag]at q;cases q;exact new;rw[zaf j]at q;by_cases a:b=e;have o:H b=Φ (.own x):=by rcases n with z|z;exact absurd (a.trans z) j;rw[a];exact z
 rw[q]at o;cases o;let⟨v,p⟩:=m;exact⟨v,by rw[a];exact p⟩;refine(ok b u q).stay (λc v l r=>k c v ?_ r) (λc r=>by rw[zaf (d c b r)];exact r) λc i r=>by rw[zaf (f c i r)];exact r
 rcases l with rfl|l;exact a;rintro rfl;rcases n with z|z;exact d c b l z;rw[l]at z;cases z;exact j rfl
end
structure Un(fs ex:List Addr)(H H':Hp)(h h':Heap):Prop where
 keep:∀b o,h.get? b=Φ o->H b=Ψ->b∉fs->b∉ex->h'.get? b=Φ o
 slot:∀b o,h.get? b=Φ o->H b=Ψ->b∈fs->b∉ex->∃sl,h'.get? b=Φ {o with slots:=sl}
 free:∀b o,h.get? b=Φ o->H b=Ψ->b∉ex->H' b=Ψ
 there:∀b o,h.get? b=Φ o->b∉ex->∃o',h'.get? b=Φ o'
 tups:∀b xs,H b=Φ (.tup xs)->H' b=Φ (.tup xs)
 frzs:∀b o u,H b=Φ (.frz o u)->H' b=Φ (.frz o u)
 tbls:∀b ps,H b=Φ (.tbl ps)->∃more,H' b=Φ (.tbl (ps++more))
section
variable{fs fs' ex ex':List Addr}{H H1 H2:Hp}{h h1 h2 h':Heap}{a x e:Addr}{o:HO}
def Un.any(u:Un fs ex H H1 h h1)(q:h.get? b=Φ c)(n:H b=Ψ)(d:b∉ex):∃g,h1.get? b=Φ {c with slots:=g}:=by by_cases f:b∈fs;exact u.slot b c q n f d;exact⟨c.slots,u.keep b c q n f d⟩
def Un.kept(k:∀b u,h.get? b=Φ u->h'.get? b=Φ u):Un fs ex H H h h':=⟨λb c q _ _ _=>k b c q,λb c q _ _ _=>⟨c.slots,k b c q⟩,λ_ _ _ n _=>n,λb c q _=>⟨c,k b c q⟩,λ_ _ q=>q,λ_ _ _ q=>q,λ_ d q=>⟨#[],by rw[q];simp⟩⟩
def Un.refl:Un fs ex H H h h:=Un.kept λ_ _ q=>q
def Un.laid(k:∀b u,h.get? b=Φ u->h'.get? b=Φ u)(d:h.objs.size<=a)(c:H a=Ψ):Un fs ex H (upd H a o) h h' where
 keep:=λb u q _ _ _=>k b u q
 slot:=λb u q _ _ _=>⟨u.slots,k b u q⟩
 free:=λb u q n _=>by rw[zaf (ne_of_lt (lt_of_lt_of_le (Β q) d))];exact n
 there:=λb u q _=>⟨u,k b u q⟩
 tups:=λb f q=>by rw[zaf (zam q c)];exact q
 frzs:=λb u f q=>by rw[zaf (zam q c)];exact q
 tbls:=λb g q=>⟨#[],by rw[zaf (zam q c),q];simp⟩
def Un.write(d:Mut (H x))(l:e=x\/H e=Φ (.own x))(k:∀b u,b≠e->h.get? b=Φ u->h'.get? b=Φ u)(f:∃u,h'.get? e=Φ u):Un fs ex H (upd H x o) h h':=by
 have i:∀b,H b=Ψ->b≠x:=λb n z=>by subst z;rw[n]at d;exact d
 have j:∀b,H b=Ψ->b≠e:=λb n z=>by subst z;rcases l with r|r;exact i b n r;rw[n]at r;exact nS r
 have g:∀b u,H b=Φ u->¬Mut (Φ u)->b≠x:=λb u q m z=>by subst z;rw[q]at d;exact m d
 refine⟨λb u q n _ _=>k b u (j b n) q,λb u q n _ _=>⟨u.slots,k b u (j b n) q⟩,λb u q n _=>by rw[zaf (i b n)];exact n,λb u q _=>?_,
  λb p q=>by rw[zaf (g b _ q λz=>z)];exact q,λb u p q=>by rw[zaf (g b _ q λz=>z)];exact q,λb s q=>⟨#[],by rw[zaf (g b _ q λz=>z),q];simp⟩⟩
 by_cases c:b=e;subst c;exact f;exact⟨u,k b u c q⟩
end
abbrev trk(h:Heap)(H:Hp):List Addr:=(List.range h.objs.size).filter λa=>(H a).isSome
abbrev hidT(h:Heap)(H:Hp):Heap:=PySem.W.hideAll h (trk h H)
def zkt(h)(H):(hidT h H).objs.size=h.objs.size:=PySem.W.hideAll_size _ _
def zmj(e:h.get? b=Φ o)(n:H b=Ψ):(hidT h H).get? b=Φ o:=PySem.W.hideAll_get _ e λa=>by have q:=(mem_filter.mp a).2;rw[n]at q;simp at q
def zoM(e:(hidT h H).get? b=Φ o):h.get? b=Φ o/\H b=Ψ:=by have a:=PySem.W.of_hideAll (trk h H) e;refine⟨a,?_⟩;cases q:H b with|none=>rfl| some x=>have c:b∈trk h H:=mem_filter.mpr ⟨mem_range.mpr (Β a),by simp[q]⟩;have z:(hidT h H).get? b=Ψ:=PySem.W.hideAll_none (trk h H) c;rw[z]at e;exact nS e
structure Mod(K:PySem.W.Frag)(mg:Str->Option Ξ)(base:Heap):Prop where
 kin:K.In base
 glob:base.Ns mainGlobals mg
 blt:∃mb,base.Ns builtinsNs mb/\∀x:Str,x≠"__name__"->mb x=bootBuiltins x
 nolimit:base.NoLimit
structure Cx where
 prog:Ο
 w:ϋ
 K:PySem.W.Frag
 mg:Str->Option Ξ
 base:Heap
 A:ϐ
 N:List Str
 s₀:Ζ
 H₀:Hp
 env:Env
 outer:List Env
 stack:List Env
 ex:List Addr
 fn:Str->Bool
 calm:Bool
 pn:List (Addr×Obj)
 xe:Ξ->Ζ->Prop
abbrev frs(l:List Env):List Addr:=l.filterMap (·.frame)
noncomputable abbrev Cx.fs(X:Cx):List Addr:=frs X.outer
abbrev Vis(a:Scope)(x:Str):Prop:=a.names.lookup x=Φ .local\/a.names.lookup x=Φ .cell\/a.names.lookup x=Φ .free
abbrev Loc(a:Scope)(x:Str):Prop:=a.names.lookup x=Φ .local\/a.names.lookup x=Φ .cell
abbrev Look(env:Env)(h:Heap)(m:Str->Option Ξ)(x:Str)(u:Ξ):Prop:=(env.kindOf x=Φ .local/\m x=Φ u)\/((env.kindOf x=Φ .cell\/env.kindOf x=Φ .free)/\∃c,env.cells.lookup x=Φ c/\h.IsCell c (Φ u))
structure Cx.Ok(X:Cx):Prop where
 mod:Mod X.K X.mg X.base
 kind:X.env.scope.kind=.function
 glob:X.env.globals=mainGlobals
 blt:X.env.builtins=builtinsNs
 above:X.s₀.heap.objs.size<=X.env.locals
 inj:∀x y c,X.env.cells.lookup x=Φ c->X.env.cells.lookup y=Φ c->x=y
 has:∀x,(X.env.kindOf x=Φ .cell\/X.env.kindOf x=Φ .free)->∃c,X.env.cells.lookup x=Φ c
 cab:∀x c,X.fn x=Γ->X.env.cells.lookup x=Φ c->X.s₀.heap.objs.size<=c
 hd:X.calm=Γ->X.A.handled=Ψ
 frames:X.A.frames=Φ X.stack
 stk:X.stack=X.outer\/(X.stack=X.env::X.outer/\X.env.frame=Φ X.env.locals)
 exf:∀b∈X.ex,b≠X.env.locals/\∀x c,X.env.cells.lookup x=Φ c->c≠b
 bs:∀b o,X.base.get? b=Φ o->X.s₀.heap.get? b=Φ o/\X.H₀ b=Ψ
 bsz:X.base.objs.size<=X.s₀.heap.objs.size
 noex:∀b o,X.base.get? b=Φ o->b∉X.ex
 exfs:∀b∈X.ex,b∉X.fs
 funs:X.s₀.heap.FunFrames X.base X.outer
 frf:∀b∈X.fs,X.H₀ b=Ψ
structure Inv(X:Cx)(pins:List (Addr×Obj))(σ:List (Option V))(H:Hp)(s:Ζ):Prop where
 ok:X.Ok
 os:s.os=X.s₀.os
 bare:AllBare s.gens
 base:Un X.fs X.ex X.H₀ H X.s₀.heap s.heap
 loc:∃m,s.heap.Ns X.env.locals m/\∀(i:Nat)(x:Str)(v:V),X.N[i]?=Φ x->σ[i]?=Φ (Φ v)->Vis X.env.scope x->∃u,RelV v u/\Look X.env s.heap m x u
 cell:∀x c,X.env.cells.lookup x=Φ c->∃v,s.heap.IsCell c v
 free:H X.env.locals=Ψ
 freeC:∀x c,X.env.cells.lookup x=Φ c->H c=Ψ
 pin:∀p∈X.pn++pins,s.heap.get? p.1=Φ p.2/\H p.1=Ψ/\p.1≠X.env.locals/\p.1∉X.fs/\∀v,p.2.data≠.cell v
 hok:HOk X.prog X.w H s.heap
 len:σ.length=X.N.length
section
variable{X:Cx}{pins:List (Addr×Obj)}{σ:List (Option V)}{H H':Hp}{s:Ζ}{h':Heap}
def Cx.Ok.nofr(ok:X.Ok)(e:X.base.get? b=Φ o):b∉X.fs:=λa=>by have:=(ok.funs.mem a).1;rw[e]at this;cases this
def Inv.bs(I:Inv X pins σ H s):∀b o,X.base.get? b=Φ o->s.heap.get? b=Φ o/\H b=Ψ:=λb o e=>⟨I.base.keep b o (I.ok.bs b o e).1 (I.ok.bs b o e).2 (I.ok.nofr e) (I.ok.noex b o e),I.base.free b o (I.ok.bs b o e).1 (I.ok.bs b o e).2 (I.ok.noex b o e)⟩
def Inv.bk(I:Inv X pins σ H s):∀b o,X.base.get? b=Φ o->s.heap.get? b=Φ o:=λb o e=>(I.bs b o e).1
def Inv.mod(I:Inv X pins σ H s):Mod X.K X.mg X.base:=I.ok.mod
def Inv.kIn(I:Inv X pins σ H s):X.K.In s.heap:=I.ok.mod.kin.keeps I.bk
def Inv.lt(I:Inv X pins σ H s):X.env.locals<s.heap.objs.size:=let ⟨_,a,_⟩:=I.loc;a.lt
def Inv.sz(I:Inv X pins σ H s):X.s₀.heap.objs.size<=s.heap.objs.size:=le_trans I.ok.above (le_of_lt I.lt)
def Inv.nofs(I:Inv X pins σ H s)(h:s.heap.objs.size<=a):a∉X.fs:=λb=>by let⟨_,o,c,_⟩:=I.ok.funs.mem b;exact absurd (lt_of_lt_of_le (Β c) (le_trans I.sz h)) (lt_irrefl _)
def Inv.cne(I:Inv X pins σ H s):∀x c,X.env.cells.lookup x=Φ c->c≠X.env.locals:=λx c e z=>by let⟨v,o,d,f⟩:=I.cell x c e;let⟨m,⟨g,h,i,a,b,_⟩,_⟩:=I.loc;rw[z,a]at d;cases d;rw[b]at f;cases f
def Inv.funs(I:Inv X pins σ H s):s.heap.FunFrames X.base X.outer:=by
 have a:∀(l:List Env),(∀b∈frs l,b∈X.fs)->X.s₀.heap.FunFrames X.base l->s.heap.FunFrames X.base l:=by intro l;induction l with|nil=>intro _ _;trivial| cons h r i=>intro g j;let⟨k,⟨L,o,c,m,n,p⟩,q⟩:=j;have d:=g L (by unfold frs;rw[List.filterMap_cons,c];exact Ν);let⟨t,e⟩:=I.base.slot L o n (I.ok.frf L d) d λz=>I.ok.exfs L z d;exact⟨k,⟨L,_,c,m,e,p⟩,i (λb f=>g b (by unfold frs;rw[List.filterMap_cons,c];exact Μ _ f)) q⟩
 exact a X.outer (λ_ f=>f) I.ok.funs
def Inv.stack(I:Inv X pins σ H s):s.heap.FunFrames X.base X.stack:=by rcases I.ok.stk with e|⟨e,a⟩;rw[e];exact I.funs;rw[e];let⟨m,b,_⟩:=I.loc;refine .cons (by rw[I.ok.kind];decide) a b ?_ I.funs;exact Heap.get?_none_of_le (le_trans I.ok.bsz I.ok.above)
def Inv.stkSub(I:Inv X pins σ H s):∀b∈frs X.stack,b∈X.env.locals::X.fs:=λb a=>by rcases I.ok.stk with e|⟨e,c⟩;rw[e]at a;exact Μ _ a;rw[e]at a;unfold frs at a;rw[List.filterMap_cons,c]at a;exact a
def Inv.stkFree(I:Inv X pins σ H s):∀b∈frs X.stack,H b=Ψ:=λb a=>by rcases mem_cons.mp (I.stkSub b a) with e|a;rw[e];exact I.free;let⟨_,o,c,_⟩:=I.ok.funs.mem a;exact I.base.free b o c (I.ok.frf b a) λz=>I.ok.exfs b z a
def Inv.step{ch:List Addr}(I:Inv X pins σ H s)(f:∀b∈ch,(b∈X.ex\/X.s₀.heap.objs.size<=b)/\b≠X.env.locals/\(∀x c,X.env.cells.lookup x=Φ c->c≠b)/\∀p∈X.pn++pins,p.1≠b)(g:∀b o,b≠X.env.locals->b∉X.fs->b∉ch->s.heap.get? b=Φ o->H b=Ψ->h'.get? b=Φ o)(A:∀b o,b≠X.env.locals->b∈X.fs->b∉ch->s.heap.get? b=Φ o->H b=Ψ->∃T,h'.get? b=Φ {o with slots:=T})(free:∀b o,b∉ch->s.heap.get? b=Φ o->H b=Ψ->H' b=Ψ)(B:∀b o,b∉ch->s.heap.get? b=Φ o->∃G,h'.get? b=Φ G)(J:∀b xs,H b=Φ (.tup xs)->H' b=Φ (.tup xs))(L:∀b o u,H b=Φ (.frz o u)->H' b=Φ (.frz o u))(M:∀b ps,H b=Φ (.tbl ps)->∃N,H' b=Φ (.tbl (ps++N)))(ns:∀m,s.heap.Ns X.env.locals m->h'.Ns X.env.locals m)(hok:HOk X.prog X.w H' h')(hg:AllBare g'):
  Inv X pins σ H' {s with heap:=h',gens:=g',drawn:=d',toks:=t'}:=by
 have O:∀b o,X.s₀.heap.get? b=Φ o->b≠X.env.locals:=λb o e=>ne_of_lt (lt_of_lt_of_le (Β e) I.ok.above);have t:∀b o,X.s₀.heap.get? b=Φ o->b∉X.ex->b∉ch:=λb o e a C=>by rcases(f b C).1 with z|z;exact a z;exact absurd (lt_of_lt_of_le (Β e) z) (lt_irrefl _)
 have h:∀x c,X.env.cells.lookup x=Φ c->∀v,s.heap.IsCell c v->h'.IsCell c v:=λx c e v y=>by let⟨o,E,U⟩:=y;have j:c∉ch:=λz=>(f c z).2.2.1 x c e rfl;by_cases hc:c∈X.fs;let⟨T,q⟩:=A c o (I.cne x c e) hc j E (I.freeC x c e);exact⟨_,q,U⟩;exact⟨o,g c o (I.cne x c e) hc j E (I.freeC x c e),U⟩
 refine⟨I.ok,I.os,hg,⟨λb o e n C a=>?_,λb o e n C a=>?_,λb o e n a=>?_,λb o e a=>?_,λb xs e=>J b xs (I.base.tups b xs e),λb o xs e=>L b o xs (I.base.frzs b o xs e),λb ps e=>?_⟩,?_,λx c e=>?_,?_,λx c e=>?_,λp hp=>?_,hok,I.len⟩;exact g b o (O b o e) C (t b o e a) (I.base.keep b o e n C a) (I.base.free b o e n a);let⟨T,w⟩:=I.base.slot b o e n C a;let⟨Y,Q⟩:=A b _ (O b o e) C (t b o e a) w (I.base.free b o e n a);exact⟨Y,Q⟩;let⟨G,w⟩:=I.base.there b o e a;exact free b G (t b o e a) w (I.base.free b o e n a);let⟨G,w⟩:=I.base.there b o e a;exact B b G (t b o e a) w;let⟨m1,w⟩:=I.base.tbls b ps e;let⟨m2,Q⟩:=M b _ w;exact⟨m1++m2,by rw[Q,Array.append_assoc]⟩;let⟨m,hn,hl⟩:=I.loc;refine⟨m,ns m hn,λi x v w Q e3=>?_⟩;let⟨u,r,l⟩:=hl i x v w Q e3;refine⟨u,r,?_⟩;rcases l with l|⟨k,c,e,z⟩;exact .inl l;exact .inr ⟨k,c,e,h x c e _ z⟩;let⟨v,z⟩:=I.cell x c e;exact⟨v,h x c e v z⟩;let⟨m,⟨o,_,_,E,_⟩,_⟩:=I.loc;exact free _ o (λz=>(f _ z).2.1 rfl) E I.free;let⟨v,o,E,U⟩:=I.cell x c e;exact free c o (λz=>(f c z).2.2.1 x c e rfl) E (I.freeC x c e);let⟨e,n,ne,nf,d⟩:=I.pin p hp;have j:p.1∉ch:=λz=>(f p.1 z).2.2.2 p hp rfl;exact⟨g p.1 p.2 ne nf j e n,free p.1 p.2 j e n,ne,nf,d⟩
def Inv.un(I:Inv X pins σ H s)(u:Un X.fs [] H H' s.heap h')(hok:HOk X.prog X.w H' h'):Inv X pins σ H' {s with heap:=h',toks:=t'}:=by let⟨m,⟨o,k,l,g,r⟩,_⟩:=id I.loc;let⟨p,h⟩:=u.any g I.free (by simp);exact I.step (ch:=[]) (λ_ z=>by cases z) (λb o _ c _ e n=>u.keep b o e n c (by simp)) (λb o _ c _ e n=>u.slot b o e n c (by simp)) (λb o _ e n=>u.free b o e n (by simp)) (λb o _ e=>u.there b o e (by simp)) u.tups u.frzs u.tbls (λq i=>by let⟨t,d,f,a,j⟩:=i;rw[g]at a;cases a;exact⟨_,d,f,h,j⟩) hok I.bare
def Inv.call(I:Inv X pins σ H s)(u:Un (frs X.stack) ch H H' s.heap h')(hok:HOk X.prog X.w H' h')(k:AllBare g')(d:∀b∈ch,(b∈X.ex\/X.s₀.heap.objs.size<=b)/\b≠X.env.locals/\(∀x c,X.env.cells.lookup x=Φ c->c≠b)/\∀p∈X.pn++pins,p.1≠b):
  Inv X pins σ H' {s with heap:=h',gens:=g',drawn:=d',toks:=t'}:=by
 let⟨m,⟨o,v,w,j,r⟩,_⟩:=id I.loc;let⟨y,g⟩:=u.any j I.free λz=>(d _ z).2.1 rfl;exact I.step d (λb o g l a e n=>u.keep b o e n (λz=>(mem_cons.mp (I.stkSub b z)).elim g l) a) (λb o _ _ a e n=>u.any e n a) (λb o a e n=>u.free b o e n a) (λb o a e=>u.there b o e a) u.tups u.frzs u.tbls (λA q=>by let⟨B,h,i,f,t⟩:=q;rw[j]at f;cases f;exact⟨_,h,i,g,t⟩) hok k
def Inv.turned(I:Inv X pins σ H s)(k:∀b o,b≠it->s.heap.get? b=Φ o->h'.get? b=Φ o)(g:H it=Ψ)(f:it≠X.env.locals)(h:it∈X.ex\/X.s₀.heap.objs.size<=it)(i:∀x c,X.env.cells.lookup x=Φ c->c≠it)(j:∀p∈X.pn++pins,p.1≠it):Inv X pins σ H {s with heap:=h',toks:=t'}:=by
 have d:∀b u,H b=Φ u->b≠it:=λb u e z=>by rw[z,g]at e;exact nS e
 refine I.step (ch:=[it]) (λb l=>?_) (λb o _ _ a e _=>k b o (λz=>a (by simp[z])) e) (λb o _ _ a e _=>⟨o.slots,k b o (λz=>a (by simp[z])) e⟩) (λ_ _ _ _ n=>n)
  (λb o a e=>⟨o,k b o (λz=>a (by simp[z])) e⟩) (λ_ _ e=>e) (λ_ _ _ e=>e) (λb B e=>⟨#[],by rw[e];simp⟩) (λm t=>?_) (λb u e=>?_) I.bare
 have e:b=it:=by simpa using l
 subst e;exact⟨h,f,i,j⟩;let⟨o,w,y,A,r⟩:=t;exact⟨o,w,y,k _ o (Ne.symm f) A,r⟩;refine(I.hok b u e).stay (λc v a q=>k c v ?_ q) (λ_ q=>q) λ_ _ q=>q;rcases a with z|z;rw[z];exact d b u e;exact d c _ z
def Inv.tok(I:Inv X pins σ H s)(t):Inv X pins σ H {s with toks:=t}:=I.un Un.refl I.hok
def Inv.kept(I:Inv X pins σ H s)(k:∀b u,s.heap.get? b=Φ u->h'.get? b=Φ u):Inv X pins σ H {s with heap:=h',toks:=t'}:=I.un (Un.kept k) (I.hok.kept k)
def Inv.laid(I:Inv X pins σ H s)(k:∀b u,s.heap.get? b=Φ u->h'.get? b=Φ u)(c:s.heap.objs.size<=a)(new:ObjOk X.prog X.w (upd H a o) h' a o):
 Inv X pins σ (upd H a o) {s with heap:=h',toks:=t'}:=I.un (Un.laid k c (I.hok.fresh c)) (I.hok.laid k c new)
def Inv.write(I:Inv X pins σ H s)(c:Mut (H x))(d:e=x\/H e=Φ (.own x))(k:∀b u,b≠e->s.heap.get? b=Φ u->h'.get? b=Φ u)(a:∃u,h'.get? e=Φ u)(new:ObjOk X.prog X.w (upd H x o) h' x o):Inv X pins σ (upd H x o) {s with heap:=h',toks:=t'}:=I.un (Un.write c d k a) (I.hok.write c d k a new)
def Inv.pins_of(I:Inv X pins σ H s)(h:∀p∈a,s.heap.get? p.1=Φ p.2/\H p.1=Ψ/\p.1≠X.env.locals/\p.1∉X.fs/\∀v,p.2.data≠.cell v):Inv X a σ H s:=⟨I.ok,I.os,I.bare,I.base,I.loc,I.cell,I.free,I.freeC,λp b=>(mem_append.mp b).elim (λz=>I.pin p (mem_append_left _ z)) (h p),I.hok,I.len⟩
def zhr{N:List Str}(c:N.Nodup){i j:Nat}(a:N[i]?=Φ x)(b:N[j]?=Φ x):i=j:=by let⟨f,d⟩:=Α.mp a;let⟨g,e⟩:=Α.mp b;exact(List.getElem_inj c).mp (d.trans e.symm)
def zdn(I:Inv X pins σ H s)(hN:X.N.Nodup)(U:X.N[i]?=Φ x)(w:Loc X.env.scope x)(r:RelV v u)(h:∀s',Inv X pins (σ.set i (Φ v)) H s'->(∃a,Heap.SameBut a s.heap s'.heap/\(a=X.env.locals\/X.env.cells.lookup x=Φ a))->Q () s')(hf:X.fn x=Γ\/X.env.scope.names.lookup x=Φ .local:=by first|exact .inl rfl|exact .inr rfl|assumption):wpAny M A (storeName X.env x u) Q E s:=by
 let⟨m,hn,hl⟩:=id I.loc;have Y:(X.env.scope.kind==.class||(X.env.scope.kind==.module&&X.env.locals != X.env.globals))=Δ:=by rw[I.ok.kind];rfl
 have G:i<σ.length:=by rw[I.len];exact(Α.mp U).1
 have L:=I.cne;have g:∀{a:Addr}{h':Heap},(∃o,s.heap.get? a=Φ o/\H a=Ψ)->Heap.SameBut a s.heap h'->HOk X.prog X.w H h':=λ{a h'} ha f b ob e=>by let⟨_,_,B⟩:=ha;refine(I.hok b ob e).stay (λc w' t q=>(f.2 c ?_).trans q) (λ_ q=>q) λ_ _ q=>q;rintro rfl;rcases t with rfl|t;rw[B]at e;exact nS e;rw[B]at t;exact nS t
 rcases w with J|J;refine wpAny_storeName_local J hn (λh' hn' f=>?_) Y;let⟨oL,_,_,hoL,_⟩:=id hn;refine h _ ⟨I.ok,I.os,I.bare,⟨λb o e n N w=>?_,λb o e n N w=>?_,I.base.free,λb o e w=>?_,I.base.tups,I.base.frzs,I.base.tbls⟩,⟨_,hn',λj y v' l C e3=>?_⟩,λy c e=>?_,I.free,I.freeC,λp hp=>?_,g ⟨oL,hoL,I.free⟩ f,by simpa using I.len⟩ ⟨_,f,.inl rfl⟩;exact(f.2 b (ne_of_lt (lt_of_lt_of_le (Β e) I.ok.above))).trans (I.base.keep b o e n N w);let⟨sl,l⟩:=I.base.slot b o e n N w;exact⟨sl,(f.2 b (ne_of_lt (lt_of_lt_of_le (Β e) I.ok.above))).trans l⟩;let⟨o',l⟩:=I.base.there b o e w;exact⟨o',(f.2 b (ne_of_lt (lt_of_lt_of_le (Β e) I.ok.above))).trans l⟩;by_cases O:j=i;subst O;rw[U]at l;cases l;rw[getElem?_set_self G]at C;cases C;exact⟨u,r,.inl ⟨J,by simp⟩⟩;rw[getElem?_set_ne (Ne.symm O)]at C;let⟨u',r',q⟩:=hl j y v' l C e3;refine⟨u',r',?_⟩;rcases q with⟨k,e⟩|⟨k,c,e,z⟩;refine .inl ⟨k,?_⟩;have:y≠x:=λe=>O (zhr hN l (e▸U));simp[this,e];exact .inr ⟨k,c,e,z.sameBut f (L y c e)⟩;let⟨w',z⟩:=I.cell y c e;exact⟨w',z.sameBut f (L y c e)⟩;let⟨e,n,ne,nf,d⟩:=I.pin p hp;exact⟨(f.2 p.1 ne).trans e,n,ne,nf,d⟩;have T:X.fn x=Γ:=by rcases hf with z|z;exact z;rw[z]at J;cases J
 let⟨c,t⟩:=I.ok.has x (.inl J);let⟨w',z⟩:=I.cell x c t;refine wpAny_storeName_cell I.ok.kind J t z (λh' hc' f=>?_);let⟨oc,hoc,hocd⟩:=id z;refine h {s with heap:=h'} ⟨I.ok,I.os,I.bare,⟨λb o e n N w=>?_,λb o e n N w=>?_,I.base.free,λb o e w=>?_,I.base.tups,I.base.frzs,I.base.tbls⟩,⟨m,hn.sameBut f (Ne.symm (L x c t)),λj y v' l C e3=>?_⟩,λy c' e=>?_,I.free,I.freeC,λp hp=>?_,g ⟨oc,hoc,I.freeC x c t⟩ f,by simpa using I.len⟩ ⟨c,f,.inr t⟩;exact(f.2 b (ne_of_lt (lt_of_lt_of_le (Β e) (I.ok.cab x c T t)))).trans (I.base.keep b o e n N w);let⟨sl,l⟩:=I.base.slot b o e n N w;exact⟨sl,(f.2 b (ne_of_lt (lt_of_lt_of_le (Β e) (I.ok.cab x c T t)))).trans l⟩;let⟨o',l⟩:=I.base.there b o e w;exact⟨o',(f.2 b (ne_of_lt (lt_of_lt_of_le (Β e) (I.ok.cab x c T t)))).trans l⟩;by_cases O:j=i;subst O;rw[U]at l;cases l;rw[getElem?_set_self G]at C;cases C;exact⟨u,r,.inr ⟨.inl J,c,t,hc'⟩⟩;rw[getElem?_set_ne (Ne.symm O)]at C;let⟨u',r',q⟩:=hl j y v' l C e3;refine⟨u',r',?_⟩;rcases q with q|⟨k,c',e,z'⟩;exact .inl q;refine .inr ⟨k,c',e,z'.sameBut f ?_⟩;rintro rfl;exact O (zhr hN l (I.ok.inj _ _ _ e t▸U));by_cases hcc:c'=c;subst hcc;exact⟨_,hc'⟩;let⟨w2,z2⟩:=I.cell y c' e;exact⟨w2,z2.sameBut f hcc⟩;let⟨e,n,ne,nf,d⟩:=I.pin p hp;refine⟨(f.2 p.1 ?_).trans e,n,ne,nf,d⟩;intro q;rw[q,hoc]at e;have q':=Option.some.inj e;exact d w' (by rw[<-q'];exact hocd)
def zeI(I:Inv X pins σ H s)(a:X.N.Nodup)(b:X.N[i]?=Φ x)(c:Loc X.env.scope x)(r:RelV v u)(h:∀s',Inv X pins (σ.set i (Φ v)) H s'->Q () s')(hf:X.fn x=Γ\/X.env.scope.names.lookup x=Φ .local:=by first|exact .inl rfl|exact .inr rfl|assumption):wpAny M A (storeName X.env x u) Q E s:=
 zdn I a b c r (λs' d _=>h s' d) hf
def Inv.call'(I:Inv X pins σ H s)(d:s'.os=s.os)(u:Un (frs X.stack) ch H H' s.heap s'.heap)(hok:HOk X.prog X.w H' s'.heap)(f:AllBare s'.gens)(a:∀b∈ch,(b∈X.ex\/X.s₀.heap.objs.size<=b)/\b≠X.env.locals/\(∀x c,X.env.cells.lookup x=Φ c->c≠b)/\∀p∈X.pn++pins,p.1≠b):Inv X pins σ H' s':=by
 let⟨h',g',d',t',g⟩:=s';have e:=d;subst e;exact I.call u hok f a
end
@[reducible]def XK:=Ξ->Option Addr->Hp->Prop
@[reducible]def St:=List (Option V)
@[reducible]def VK:=V->Hp->Prop
@[reducible]def TE:=St->Hp->VK->Prop
@[reducible]def TT:=St->Hp->(Bool->Hp->Prop)->Prop
@[reducible]def TA:=St->Hp->(List V->Hp->Prop)->Prop
structure Ends where
 nx:St->Hp->Prop
 rt:VK
 bk:St->Hp->Prop:=λ_ _=>False
 ct:St->Hp->Prop:=λ_ _=>False
@[reducible]def TS:=Ends->St->Hp->Prop
abbrev EP(X:Cx)(a:List (Addr×Obj))(c:St)(Q:VK)(u:Ξ)(s':Ζ):Prop:=∃v b,Inv X a c b s'/\RelV v u/\Q v b
abbrev TP(X:Cx)(a:List (Addr×Obj))(d:St)(Q:Bool->Hp->Prop)(b:Bool)(s':Ζ):Prop:=∃c,Inv X a d c s'/\Q b c
abbrev AP(X:Cx)(a:List (Addr×Obj))(d:St)(Q:List V->Hp->Prop)(us:List Ξ)(s':Ζ):Prop:=∃b c,Inv X a d c s'/\Vals b us/\Q b c
abbrev SP(X:Cx)(b:List (Addr×Obj))(D:Ends)(f:Flow)(s':Ζ):Prop:=match f with|.next=>∃a c,Inv X b a c s'/\D.nx a c|.brk=>∃a c,Inv X b a c s'/\D.bk a c|.cont=>∃a c,Inv X b a c s'/\D.ct a c|.ret u=>∃v a c,Inv X b a c s'/\RelV v u/\D.rt v c
abbrev PE(X:Cx)(e:Expr)(t:TE):Prop:=∀(a:List (Addr×Obj))(s:Ζ)(b:St)(H:Hp)(Q:VK),Inv X a b H s->t b H Q->wpAny (model X.prog X.w) X.A (eval e X.env) (EP X a b Q) X.xe s
abbrev PT(X:Cx)(e:Expr)(t:TT):Prop:=∀(a:List (Addr×Obj))(s:Ζ)(b:St)(H:Hp)(Q:Bool->Hp->Prop),Inv X a b H s->t b H Q->wpAny (model X.prog X.w) X.A (isTrue e X.env (eval e X.env)) (TP X a b Q) X.xe s
abbrev PW(X:Cx)(e:Expr)(t:TT):Prop:=∀(b:Sem Ξ)(a:List (Addr×Obj))(s:Ζ)(c:St)(H:Hp)(Q:Bool->Hp->Prop),Inv X a c H s->t c H Q->wpAny (model X.prog X.w) X.A (isTrue e X.env b) (TP X a c Q) X.xe s
def PW.pt(h:PW X e t):PT X e t:=h _
abbrev PA(X:Cx)(es:List Expr)(t:TA):Prop:=∀(pos:Pos)(a:List (Addr×Obj))(s:Ζ)(b:St)(H:Hp)(Q:List V->Hp->Prop),Inv X a b H s->t b H Q->wpAny (model X.prog X.w) X.A (spliced (backTo pos (starEach es X.env))) (AP X a b Q) X.xe s
abbrev PS(X:Cx)(st:Stmt)(t:TS):Prop:=∀(a:List (Addr×Obj))(s:Ζ)(b:St)(H:Hp)(D:Ends),Inv X a b H s->t D b H->wpAny (model X.prog X.w) X.A (exec st X.env) (SP X a D) X.xe s
abbrev PSs(X:Cx)(st:List Stmt)(t:TS):Prop:=∀(a:List (Addr×Obj))(s:Ζ)(b:St)(H:Hp)(D:Ends),Inv X a b H s->t D b H->wpAny (model X.prog X.w) X.A (execs st X.env) (SP X a D) X.xe s
def thn(h:wpAny M A t Q E s)(b:∀a s,Q a s->c a s):wpAny M A t c E s:=Τ h b λ_ _ x=>x
section
variable{X:Cx}
def bin(l:PE X a m)(n:PE X b o){R:V->V->Hp->Prop}(I:Inv X c e H s)(h:m e H λx k=>o e k λy d=>R x y d){Q}{f:Ξ->Ξ->Sem E}(p:∀v u j x y d,Inv X c e d j->RelV x v->RelV y u->R x y d->wpAny (model X.prog X.w) X.A (f v u) Q X.xe j):
  wpAny (model X.prog X.w) X.A (eval a X.env) (λv g=>wpAny (model X.prog X.w) X.A (eval b X.env) (λu i=>wpAny (model X.prog X.w) X.A (f v u) Q X.xe i) X.xe g) X.xe s:=by
 refine thn (l c s e H _ I h) λv q z=>?_;let⟨x,k,r,t,w⟩:=z;refine thn (n c q e k _ r w) λu j z=>?_;let⟨y,d,A,B,C⟩:=z;exact p v u j x y d A t B C
abbrev tVar(i:Nat):TE:=λa H Q=>∃v,a[i]?=Φ (Φ v)/\Q v H
abbrev tC(v:V):TE:=λ_ H Q=>Q v H
def zem(j:X.N[i]?=Φ x)(k:Vis X.env.scope x)(hd:(x==("__debug__":Str))=Δ:=by decide)(f:(x==("__classdict__":Str))=Δ:=by decide):PE X (.Name x pos) (tVar i):=by intro d s n H Q I h;let⟨v,e,h⟩:=h;let⟨m,o,p⟩:=I.loc;let⟨u,r,l⟩:=p i x v j e k;have fin:EP X d n Q u s:=⟨v,H,I,r,h⟩;rcases l with⟨b,q⟩|⟨b,c,g,a⟩;exact wpAny_Name (wpAny_loadName_local I.ok.kind b o q fin) hd;rcases b with b|b;exact wpAny_Name (wpAny_loadName_cell I.ok.kind b g a fin) hd;exact wpAny_Name (wpAny_loadName_free I.ok.kind b g a fin f) hd
def zjN:PE X (.Constant (.int i) j pos) (tC (.int i)):=λ_ _ _ H _ I h=>wpAny_Constant_int ⟨.int i,H,I.tok _,⟨_,rfl⟩,h⟩
def ztz:PE X (.Constant (.bool b) j pos) (tC (.bl b)):=λ_ _ _ H _ I h=>Constant_bool ⟨.bl b,H,I,rfl,h⟩
def zrn:PE X (.Constant .none j pos) (tC .non):=λ_ _ _ H _ I h=>Constant_none ⟨.non,H,I,rfl,h⟩
def zm1:PE X (.Constant (.str x) j pos) (tC (.str x)):=λ_ _ _ H _ I h=>Calls.Constant_str ⟨.str x,H,I.tok _,⟨_,rfl⟩,h⟩
abbrev Gl(X:Cx)(x:Str):Prop:=X.env.kindOf x=Φ .globalImplicit
def zbn(I:Inv X a d H s)(b:Gl X x)(c:X.mg x=Φ u)(h:Q u s)(hd:(x==("__debug__":Str))=Δ:=by decide):wpAny (model X.prog X.w) X.A (eval (.Name x pos) X.env) Q E s:=
 Calls.Name_function_global I.ok.kind b (Calls.loadGlobal_global (by rw[I.ok.glob];exact I.mod.glob.keeps I.bk) c h) hd
def zdG(I:Inv X a i H s)(b:Gl X x)(c:X.mg x=Ψ)(d:bootBuiltins x=Φ u)(h:Q u s)(e:x≠"__name__":=by decide)(hd:(x==("__debug__":Str))=Δ:=by decide):wpAny (model X.prog X.w) X.A (eval (.Name x pos) X.env) Q E s:=by
 let⟨j,f,g⟩:=I.mod.blt;exact Calls.Name_function_global I.ok.kind b (Calls.loadGlobal_builtin (by rw[I.ok.glob];exact I.mod.glob.keeps I.bk) c (by rw[I.ok.blt];exact f.keeps I.bk) ((g x e).trans d) h) hd
def zeU(a:Gl X x)(b:X.mg x=Φ u)(r:RelV v u)(hd:(x==("__debug__":Str))=Δ:=by decide):PE X (.Name x pos) (tC v):=λ_ _ _ H _ I h=>zbn I a b ⟨v,H,I,r,h⟩ hd
def zjO(a:Gl X x)(b:X.mg x=Ψ)(c:bootBuiltins x=Φ u)(r:RelV v u)(d:x≠"__name__":=by decide)(hd:(x==("__debug__":Str))=Δ:=by decide):PE X (.Name x pos) (tC v):=λ_ _ _ H _ I h=>zdG I a b c ⟨v,H,I,r,h⟩ d hd
variable{a b:Expr}{ta tb:TE}{pos:Pos}
def RelV.none_iff(r:RelV x v):(v==Ξ.none)=decide (x=.non):=by cases x with|non=>cases r;rfl|bl _=>cases r;rfl|int _=>let⟨t,rfl⟩:=r;rfl|str _=>let⟨t,rfl⟩:=r;rfl|byt _=>let⟨t,rfl⟩:=r;rfl|flt _=>let⟨t,rfl⟩:=r;rfl|ref _=>cases r;rfl|ty _=>cases r;rfl
variable{tA tB':TT}{rest:List Expr}
abbrev tAnd(t u:TT):TT:=λd H Q=>t d H λc e=>if c=Γ then u d e Q else Q Δ e
abbrev tOr(t u:TT):TT:=λd H Q=>t d H λc e=>if c=Γ then Q Γ e else u d e Q
abbrev tNot(t:TT):TT:=λd H Q=>t d H λc e=>Q (!c) e
def zos(f:PT X a tA):PW X (.BoolOp .And [a] pos) tA:=by intro i d s g H Q I h;refine isTrue_and (thn (f d s g H Q I h) λc j e=>?_);cases c with|true=>exact isTrue_and_nil e|false=>exact e
def zq9(f:PT X a tA):PW X (.BoolOp .Or [a] pos) tA:=by intro i d s g H Q I h;refine isTrue_or (thn (f d s g H Q I h) λc j e=>?_);cases c with|false=>exact isTrue_or_nil e|true=>exact e
def zra(j:PT X a tA)(k:PW X (.BoolOp .And (b::rest) pos) tB'):PW X (.BoolOp .And (a::b::rest) pos) (tAnd tA tB'):=by intro l d s e H Q I h;refine isTrue_and (thn (j d s e H _ I h) λc m z=>?_);let⟨f,g,i⟩:=z;cases c with|true=>exact k l d m e f Q g i|false=>exact⟨f,g,i⟩
def ztv(j:PT X a tA)(k:PW X (.BoolOp .Or (b::rest) pos) tB'):PW X (.BoolOp .Or (a::b::rest) pos) (tOr tA tB'):=by intro l d s e H Q I h;refine isTrue_or (thn (j d s e H _ I h) λc m z=>?_);let⟨f,g,i⟩:=z;cases c with|true=>exact⟨f,g,i⟩|false=>exact k l d m e f Q g i
def zrb(e:PT X a tA):PT X (.UnaryOp .Not a pos) (tNot tA):=by intro d s f H Q I h;exact isTrue_not (e d s f H (λc g=>Q (!c) g) I h)
abbrev ztf(ta tb:TE):TE:=λd H Q=>ta d H λx e=>∃c,x=.bl c/\if c=Γ then tb d e Q else Q (.bl Δ) e
abbrev tOrV(ta tb:TE):TE:=λd H Q=>ta d H λx e=>∃c,x=.bl c/\if c=Γ then Q (.bl Γ) e else tb d e Q
abbrev ztb(ta:TE):TE:=λd H Q=>ta d H λx e=>∃c,x=.bl c/\Q (.bl (!c)) e
def zm2(h:PE X a t):PE X (.BoolOp op [a] pos) t:=λc s d H Q I e=>BoolOp_one (h c s d H Q I e)
def zrv(j:PE X a ta)(k:PE X (.BoolOp .And (b::rest) pos) tb):PE X (.BoolOp .And (a::b::rest) pos) (ztf ta tb):=by intro d s f H Q I h;refine BoolOp_and (thn (j d s f H _ I h) λv l z=>?_);let⟨x,g,i,m,e⟩:=z;let⟨c,rfl,e⟩:=e;cases m;refine Ϙ ?_;cases c with|true=>exact k d l f g Q i e|false=>exact⟨.bl Δ,g,i,rfl,e⟩
def zty(j:PE X a ta)(k:PE X (.BoolOp .Or (b::rest) pos) tb):PE X (.BoolOp .Or (a::b::rest) pos) (tOrV ta tb):=by intro d s f H Q I h;refine BoolOp_or (thn (j d s f H _ I h) λv l z=>?_);let⟨x,g,i,m,e⟩:=z;let⟨c,rfl,e⟩:=e;cases m;refine Ϙ ?_;cases c with|false=>exact k d l f g Q i e|true=>exact⟨.bl Γ,g,i,rfl,e⟩
def zrm(f:PE X a ta):PE X (.UnaryOp .Not a pos) (ztb ta):=by intro d s g H Q I h;refine UnaryOp_ (thn (f d s g H _ I h) λv l z=>?_);let⟨x,i,j,k,e⟩:=z;let⟨c,rfl,e⟩:=e;cases k;exact not_of (Ϙ ⟨.bl (!c),i,j,rfl,e⟩)
abbrev tIf(t:TT)(ta tb:TE):TE:=λd H Q=>t d H λc e=>if c=Γ then ta d e Q else tb d e Q
def zhn(l:PT X c tA)(m:PE X a ta)(n:PE X b tb):PE X (.IfExp c a b pos) (tIf tA ta tb):=by intro e s f H Q I h;refine wpAny_IfExp (thn (l e s f H _ I h) λd g z=>?_);let⟨i,j,k⟩:=z;cases d with|true=>exact m e g f i Q j k|false=>exact n e g f i Q j k
end
abbrev SqL(K:PySem.W.Frag)(H:Hp)(a:Addr)(xs:List V):Prop:=
 Rd H a (.lst xs)\/
  ∃(o:Obj) (b:Array Ξ) (n:Nat),K.lookup a=Φ o/\o.cls=.type "list"/\o.dict=Ψ/\o.data=.seq b n/\b.size<=sizeLine/\Vals xs b.toList
abbrev SqT(K:PySem.W.Frag)(H:Hp)(a:Addr)(xs:List V):Prop:=
 Rd H a (.tup xs)\/
  ∃(o:Obj) (b:Array Ξ) (n:Nat),K.lookup a=Φ o/\o.cls=.type "tuple"/\o.data=.seq b n/\b.size<=sizeLine/\Vals xs b.toList
abbrev absV:Ξ->Option V
 |.none=>Φ .non|.bool b=>Φ (.bl b)|.int i _=>Φ (.int i)|.str x _=>Φ (.str x)|.bytes b _=>Φ (.byt b)|.float b _=>Φ (.flt b)|.ref a=>Φ (.ref a)|.type n=>Φ (.ty n)|_=>Ψ
def RelV.abs(r:RelV x u):absV u=Φ x:=by cases x with|non=>cases r;rfl|bl _=>cases r;rfl|int _=>let⟨t,rfl⟩:=r;rfl|str _=>let⟨t,rfl⟩:=r;rfl|byt _=>let⟨t,rfl⟩:=r;rfl|flt _=>let⟨t,rfl⟩:=r;rfl|ref _=>cases r;rfl|ty _=>cases r;rfl
def RelV.inj(r:RelV x u)(q:RelV y u):x=y:=Option.some.inj (r.abs.symm.trans q.abs)
def Vals.inj{xs ys:List V}{us:List Ξ}(h:Vals xs us)(k:Vals ys us):xs=ys:=by induction h generalizing ys with|nil=>cases k;rfl|cons r t i=>cases k with|cons a b=>rw[r.inj a,i b]
section
variable{X:Cx}{pins:List (Addr×Obj)}{σ:St}{H:Hp}{s:Ζ}{a:Addr}{xs ys:List V}
def SqL.of{K}(h:H a=Φ (.lst xs)):SqL K H a xs:=.inl (.inl h)
def SqT.of{K}(h:H a=Φ (.tup xs)):SqT K H a xs:=.inl (.inl h)
def Inv.list(I:Inv X pins σ H s)(h:SqL X.K H a xs):∃its:List Ξ,Vals xs its/\PlainL s.heap a its.toArray/\xs.length<=sizeLine:=by rcases h with h|⟨o,its,n,b,c,d,f,g,r⟩;let⟨z,its,n,r,e⟩:=h.ok I.hok;exact⟨its,r,⟨_,n,e,rfl,rfl,rfl⟩,z⟩;refine⟨its.toList,r,⟨o,n,I.kIn a o b,c,d,by simpa using f⟩,?_⟩;have e:=r.length;simp![length_toList]at e;lia
def Inv.tuple(I:Inv X pins σ H s)(h:SqT X.K H a xs):∃its:List Ξ,Vals xs its/\IsTup s.heap a its.toArray/\xs.length<=sizeLine:=by rcases h with h|⟨o,its,n,b,c,d,f,r⟩;let⟨z,its,r,p⟩:=h.ok I.hok;exact⟨its,r,p,z⟩;refine⟨its.toList,r,⟨o,I.kIn a o b,c,n,by simpa using d⟩,?_⟩;have e:=r.length;simp![length_toList]at e;lia
def Inv.list_inj(I:Inv X pins σ H s)(h:SqL X.K H a xs)(h':SqL X.K H a ys):xs=ys:=by
 let⟨c,r,⟨o,n,e,_,_,d⟩,_⟩:=I.list h;let⟨b,i,⟨k,l,f,_,_,g⟩,_⟩:=I.list h';rw[e]at f;cases f;rw[d]at g;injection g with j _;have:c=b:=by simpa using congrArg Array.toList j
 subst this;exact r.inj i
def Inv.tuple_inj(I:Inv X pins σ H s)(h:SqT X.K H a xs)(h':SqT X.K H a ys):xs=ys:=by
 let⟨c,r,⟨o,e,_,n,d⟩,_⟩:=I.tuple h;let⟨b,i,⟨k,f,_,l,g⟩,_⟩:=I.tuple h';rw[e]at f;cases f;rw[d]at g;injection g with j _;have:c=b:=by simpa using congrArg Array.toList j
 subst this;exact r.inj i
end
noncomputable abbrev Cx.wish(X:Cx)(E:Ξ->Ζ->Prop):Cx:={X with xe:=E}
noncomputable abbrev Cx.nox(X:Cx):Cx:=X.wish λ_ _=>False
def Cx.Ok.wish{X:Cx}(ok:X.Ok)(E):(X.wish E).Ok:=⟨ok.mod,ok.kind,ok.glob,ok.blt,ok.above,ok.inj,ok.has,ok.cab,ok.hd,ok.frames,ok.stk,ok.exf,ok.bs,ok.bsz,ok.noex,ok.exfs,ok.funs,ok.frf⟩
def Cx.Ok.unwish{X:Cx}(ok:(X.wish E).Ok):X.Ok:=⟨ok.mod,ok.kind,ok.glob,ok.blt,ok.above,ok.inj,ok.has,ok.cab,ok.hd,ok.frames,ok.stk,ok.exf,ok.bs,ok.bsz,ok.noex,ok.exfs,ok.funs,ok.frf⟩
section
variable{X:Cx}{pins:List (Addr×Obj)}{σ:St}{H:Hp}{s:Ζ}{E:Ξ->Ζ->Prop}
def Inv.wish(I:Inv X pins σ H s)(E):Inv (X.wish E) pins σ H s:=⟨I.ok.wish E,I.os,I.bare,I.base,I.loc,I.cell,I.free,I.freeC,I.pin,I.hok,I.len⟩
def Inv.unwish(I:Inv (X.wish E) pins σ H s):Inv X pins σ H s:=⟨I.ok.unwish,I.os,I.bare,I.base,I.loc,I.cell,I.free,I.freeC,I.pin,I.hok,I.len⟩
def SP.unwish(h:SP (X.wish E) pins D f s'):SP X pins D f s':=by cases f with|next=>let⟨a,b,I,q⟩:=h;exact⟨a,b,I.unwish,q⟩|brk=>let⟨a,b,I,q⟩:=h;exact⟨a,b,I.unwish,q⟩|cont=>let⟨a,b,I,q⟩:=h;exact⟨a,b,I.unwish,q⟩|ret u=>let⟨v,a,b,I,r,q⟩:=h;exact⟨v,a,b,I.unwish,r,q⟩
def PSs.nox{st}(h:PSs X.nox st t):PSs X st t:=λpins s σ H D I a=>Τ (h pins s σ H D (I.wish _) a) (λ_ _ q=>q.unwish) λ_ _ z=>False.elim z
end
section
variable{X:Cx}{st:Stmt}{rest:List Stmt}{t u:TS}{e:Expr}{te:TE}{pos:Pos}
abbrev ztc:TS:=λD a H=>D.nx a H
abbrev tSeq(t u:TS):TS:=λD a H=>t {D with nx:=u D} a H
def zeS:PSs X [] ztc:=λ_ _ a H _ I h=>wpAny_execs_nil ⟨a,H,I,h⟩
def zaC(c:PS X st t)(d:PSs X rest u):PSs X (st::rest) (tSeq t u):=by intro a s g H D I h;refine wpAny_execs_cons (thn (c a s g H {D with nx:=u D} I h) λf i q=>?_);cases f with| next=>let⟨b,j,k,q⟩:=q;exact d a i b j D k q|ret v=>exact q|brk=>exact q|cont=>exact q
def Inv.quiet(I:Inv X a b H s):interactive X.env=Δ:=by simp[interactive,I.ok.kind]
abbrev ztd(te:TE):TS:=λD a H=>te a H λ_ b=>D.nx a b
def zeT(c:PE X e te)(hs:swapsWith e Ψ pos.line X.env=pure Δ:=by rfl):PS X (.Expr e pos) (ztd te):=by intro a s b H D I h;exact wpAny_Expr_any (thn (c a s b H _ I h) λv i z=>(by let⟨x,d,f,j,g⟩:=z;exact ⟨b,d,f,g⟩)) I.quiet hs
abbrev tRet(te:TE):TS:=λD a H=>te a H D.rt
def zm0(c:PE X e te):PS X (.Return (Φ e) pos) (tRet te):=by intro a s b H D I h;exact wpAny_Return_some (thn (c a s b H _ I h) λv j z=>(by let⟨x,d,f,g,i⟩:=z;exact ⟨x,b,d,f,g,i⟩))
abbrev tIfS(c:TT)(t u:TS):TS:=λD a H=>c a H λb d=>if b=Γ then t D a d else u D a d
def zrc(m:PT X c n)(o:PSs X a t)(p:PSs X b u):PS X (.If c a b pos) (tIfS n t u):=by intro f s g H D I h;refine wpAny_If (thn (m f s g H _ I h) λd i z=>?_);let⟨j,k,l⟩:=z;cases d with|true=>exact o f i g j D k l|false=>exact p f i g j D k l
end
@[reducible]def TG:=V->St->Hp->(St->Hp->Prop)->Prop
@[reducible]def TGs:=List V->St->Hp->(St->Hp->Prop)->Prop
abbrev PG(X:Cx)(a:Expr)(t:TG):Prop:=
 ∀(b:List (Addr×Obj))(s:Ζ)(d:St)(H:Hp)(v:V)(u:Ξ)(Q:St->Hp->Prop),Inv X b d H s->RelV v u->t v d H Q->
  wpAny (model X.prog X.w) X.A (assign a X.env u) (λ_ f=>∃c e,Inv X b c e f/\Q c e) X.xe s
abbrev PGs(X:Cx)(ts:List Expr)(t:TGs):Prop:=
 ∀(a:List (Addr×Obj))(s:Ζ)(c:St)(H:Hp)(d:List V)(e:List Ξ)(Q:St->Hp->Prop),Inv X a c H s->Vals d e->t d c H Q->
  wpAny (model X.prog X.w) X.A (assignInOrder ((assignEach ts X.env).map (·.2)) e) (λ_ g=>∃b f,Inv X a b f g/\Q b f) X.xe s
@[reducible]def TSet:=V->V->V->Hp->(Hp->Prop)->Prop
abbrev PSet(X:Cx)(t:TSet):Prop:=
 ∀(a:List (Addr×Obj))(s:Ζ)(b:St)(H:Hp)(o i v:V)(c d u:Ξ)(Q:Hp->Prop),Inv X a b H s->RelV o c->RelV i d->RelV v u->t o i v H Q->
  wpAny (model X.prog X.w) X.A (setItem c d u) (λ_ f=>∃e,Inv X a b e f/\Q e) X.xe s
section
variable{X:Cx}{pos:Pos}
abbrev zfV(i:Nat):TG:=λv a H Q=>Q (a.set i (Φ v)) H
def zjL(b:X.N.Nodup)(c:X.N[i]?=Φ x)(d:Loc X.env.scope x)(hf:X.fn x=Γ\/X.env.scope.names.lookup x=Φ .local:=by first|exact .inl rfl|exact .inr rfl|assumption):PG X (.Name x pos) (zfV i):=by intro a s f H v u Q I r h;exact wpAny_assign_Name (zeI I b c d r (λg e=>⟨_,H,e,h⟩) hf)
abbrev gNil:TGs:=λa b H Q=>a=[]/\Q b H
abbrev zt0(t:TG)(u:TGs):TGs:=λb c H Q=>∃v r,b=v::r/\t v c H λa d=>u r a d Q
def zoB:PGs X [] gNil:=by intro a s b H c d Q I r h;let⟨e,h⟩:=h;subst e;cases r;exact assignInOrder_nil ⟨b,H,I,h⟩
def zlO(c:PG X e t)(d:PGs X es u)(hs:(assignEach (e::es) X.env).map (·.2)=assign e X.env::(assignEach es X.env).map (·.2):=by rfl):PGs X (e::es) (zt0 t u):=by
 intro a s f H n o Q I r h;let⟨v,p,g,h⟩:=h;subst g;cases r with| cons r i=>rw[hs];refine assignInOrder_cons (thn (c a s f H _ _ _ I r h) λ_ j z=>?_);let⟨b,k,l,m⟩:=z;exact d a j b k _ _ Q l i m
abbrev gTup(K:PySem.W.Frag)(n:Nat)(t:TGs):TG:=λv c H Q=>∃a b,v=.ref a/\SqT K H a b/\b.length=n/\t b c H Q
def zrj(j:X.calm=Γ)(h:PGs X es t)(l:(assignEach es X.env).length=n:=by rfl)(d:(assignEach es X.env).findIdx? (·.1)=Ψ:=by rfl):PG X (.Tuple es k pos) (gTup X.K n t):=by
 intro c s g H v u Q I r f;let⟨a,m,p,q,w,f⟩:=f;subst p;cases r;let⟨x,i,y,C⟩:=I.tuple q;refine assign_Tuple_tuple (I.ok.hd j) y (by simp[l,<-w,i.length]) d λz A=>?_;have B:=I.kept (t':=s.toks) λb o e=>A b o (ne_of_lt (Β e)) e;exact h c _ g H m _ Q B (by simpa using i) f
abbrev tAsg(b:TE)(g:TG):TS:=λD a H=>b a H λx c=>g x a c D.nx
def zrf(d:PE X e f)(i:PG X b g)(hs:swapsWithSole [b] e pos.line X.env=pure Δ:=by rfl)(hw:swappedStores [b] e X.env=pure Ψ:=by rfl)(j:(assignEach [b] X.env).map (·.2)=[assign b X.env]:=by rfl):PS X (.Assign [b] e pos) (tAsg f g):=by
 intro a s c H D I h;refine wpAny_Assign_stores (thn (d a s c H _ I h) λv k z=>?_) hs hw;let⟨x,l,m,n,o⟩:=z;rw[j];exact thn (i a k c l x v _ m n o) λ_ p q=>q
def zel(b:X.N.Nodup)(c:X.N[i]?=Φ x)(d:Loc X.env.scope x)(f:PE X e g)(hs:swapsWith e (Φ (.Name x pos')) pos.line X.env=pure Δ:=by rfl)(hf:X.fn x=Γ\/X.env.scope.names.lookup x=Φ .local:=by first|exact .inl rfl|exact .inr rfl|assumption):
  PS X (.Assign [.Name x pos'] e pos) (tAsg g (zfV i)):=by
 intro a s j H D I h;refine wpAny_Assign_Name (thn (f a s j H _ I h) λv p z=>?_) hs;let⟨y,k,l,m,n⟩:=z;exact zeI l b c d m (λq o=>⟨_,k,o,n⟩) hf
end
structure It where
 go:Nat->Hp->Prop
 yld:Nat->Hp->V->Hp->Prop
 stop:Nat->Hp->Prop
abbrev FpOk(X:Cx)(a:List (Addr×Obj))(H:Hp)(b:Addr):Prop:=H b=Ψ/\b≠X.env.locals/\b∉X.fs/\(b∈X.ex\/X.s₀.heap.objs.size<=b)/\(∀x c,X.env.cells.lookup x=Φ c->c≠b)/\∀p∈X.pn++a,p.1≠b
def Inv.fpOk(I:Inv X a h H s)(d:s.heap.objs.size<=b)(f:H' b=Ψ):FpOk X a H' b:=by refine⟨f,ne_of_gt (lt_of_lt_of_le I.lt d),I.nofs d,.inr (le_trans I.sz d),λx c e z=>?_,λp g z=>?_⟩;let⟨v,q⟩:=I.cell x c e;exact absurd (lt_of_lt_of_le q.lt (by rw[z];exact d)) (lt_irrefl _);exact absurd (lt_of_lt_of_le (Β (I.pin p g).1) (by rw[z];exact d)) (lt_irrefl _)
structure Turn(P:Ο)(w:ϋ)(K:PySem.W.Frag)(tg:Expr)(J:It)(fp:List Addr)(it:Addr)(tn:Nat->Heap->Prop):Prop where
 mem:it∈fp
 obj:∀i h,tn i h->∀b∈fp,∃o,h.get? b=Φ o/\∀v,o.data≠.cell v
 keep:∀i h h',tn i h->(∀b∈fp,∀o,h.get? b=Φ o->h'.get? b=Φ o)->tn i h'
 item:∀(X:Cx),X.prog=P->X.w=w->X.K=K->X.calm=Γ->∀(i:Nat)(pins:List (Addr×Obj))(s:Ζ)(σ:St)(H:Hp)(E:Ξ->Ζ->Prop),Inv X pins σ H s->(∀b∈fp,FpOk X pins H b)->tn i s.heap->J.go i H->
  wpAny (model P w) X.A (pyNext (.ref it)) (λr s1=>∃u,r=Φ u/\
   wpAny (model P w) X.A (letOwnedTupleGo tg (.ref it) u) (λ_ s2=>∃x H',Inv X pins σ H' s2/\RelV x u/\J.yld i H x H'/\tn (i+1) s2.heap/\∀b∈fp,H' b=Ψ) E s1) E s
 done:∀(X:Cx),X.prog=P->X.w=w->X.K=K->X.calm=Γ->∀(i:Nat)(pins:List (Addr×Obj))(s:Ζ)(σ:St)(H:Hp)(E:Ξ->Ζ->Prop),Inv X pins σ H s->(∀b∈fp,FpOk X pins H b)->tn i s.heap->J.stop i H->
  wpAny (model P w) X.A (pyNext (.ref it)) (λr s1=>r=Ψ/\Inv X pins σ H s1) E s
 self:∀(A:ϐ)(i:Nat)(s:Ζ)(Q:Ξ->Ζ->Prop)(E:Ξ->Ζ->Prop),tn i s.heap->Q (.ref it) s->wpAny (model P w) A (pyIter (.ref it)) Q E s
@[reducible]def TI:=St->Hp->(It->Hp->Prop)->Prop
abbrev PIE(X:Cx)(a:List (Addr×Obj))(i:St)(j:Expr)(R:It->Hp->Prop)(c:Ξ)(e:Ζ):Prop:=∃(f:Addr) (g:List Addr) (h:Nat->Heap->Prop) (J:It) (d:Hp),c=.ref f/\Inv X a i d e/\Turn X.prog X.w X.K j J g f h/\h 0 e.heap/\(∀b∈g,FpOk X a d b)/\R J d
abbrev PI(X:Cx)(d b:Expr)(e:TI):Prop:=
 ∀(a:List (Addr×Obj))(s:Ζ)(c:St)(H:Hp)(R:It->Hp->Prop),Inv X a c H s->e c H R->
  wpAny (model X.prog X.w) X.A (eval b X.env) (λv f=>wpAny (model X.prog X.w) X.A (pyIter v) (PIE X a c d R) X.xe f) X.xe s
def zpi(b:s.heap.get? it=Φ o)(c:o.cls=.type n)(hd:o.data=.fields vs)(d:["enumerate","zip","dict_itemiterator","dict_reverseitemiterator","odict_iterator","itertools.zip_longest","itertools.pairwise"].contains n=Δ)(a:Q () s):wpAny M A (letOwnedTupleGo e (.ref it) u) Q E s:=by
 cases e<;>first
  |exact Ω a
  |(cases u<;>first
   |exact Ω a
   | (refine Θ (wpAny_load b ?_)
      rw[c,hd];show wpAny M A (if(["enumerate","zip","dict_itemiterator","dict_reverseitemiterator","odict_iterator","itertools.zip_longest","itertools.pairwise"].contains n&&vs[0]?==Φ (rawInt _))=Γ then _ else _) Q E s;rw[if_neg (by intro h;rw[d]at h;exact nB h)];exact Ω a))
abbrev Itl(K:PySem.W.Frag)(a:Addr):It:=⟨λi H=>∃b x,SqL K H a b/\b[i]?=Φ x,λi H x c=>c=H/\∀b,SqL K H a b->b[i]?=Φ x,λi H=>∃b,SqL K H a b/\b.length<=i⟩
abbrev Itt(K:PySem.W.Frag)(a:Addr):It:=⟨λi H=>∃b x,SqT K H a b/\b[i]?=Φ x,λi H x c=>c=H/\∀b,SqT K H a b->b[i]?=Φ x,λi H=>∃b,SqT K H a b/\b.length<=i⟩
abbrev Itr(lo:Int)(n:Nat):It:=⟨λi _=>i<n,λi H x a=>a=H/\x=.int (lo+i),λi _=>n<=i⟩
def zi1{P:Ο}{w:ϋ}{K:PySem.W.Frag}{tg:Expr}(a it:Addr):Turn P w K tg (Itl K a) [it] it (λi h=>h.IsListIter it a i) where
 mem:=by simp
 obj:=λi h st b hb=>by
  have e:b=it:=by simpa using hb
  subst e;let⟨o,e,c,d⟩:=st;exact⟨o,e,λv z=>by rw[d]at z;cases z⟩
 keep:=λi h h' st k=>st.at λo e=>k it (by simp) o e
 item:=by intro X hP hw hK hc i pins s σ H E I hf st hg;subst hP hw hK;let⟨xs,x,hq,hx⟩:=hg;let⟨its,rv,p,hz⟩:=I.list hq;let⟨u,hu,ru⟩:=rv.get hx;let⟨f0,f1,f2,f3,f4,f5⟩:=hf it (by simp);refine wpAny_pyNext_list_item st p.isList (x:=u) (by simpa using hu) λh' st' sb=>?_;have I1:=I.turned (t':=s.toks) (λb o hb e=>(sb.2 b hb).trans e) f0 f1 f3 f4 f5;let⟨o,e,c,d⟩:=id st';exact⟨u,rfl,zpi e c d (by decide) ⟨x,H,I1,ru,⟨rfl,λys hy=>by rw[I.list_inj hy hq];exact hx⟩,st',λb hb=>(hf b hb).1⟩⟩
 done:=by intro X hP hw hK hc i pins s σ H E I hf st hg;subst hP hw hK;let⟨xs,hq,hx⟩:=hg;let⟨its,rv,p,hz⟩:=I.list hq;let⟨f0,f1,f2,f3,f4,f5⟩:=hf it (by simp);have hl:=rv.length;exact wpAny_pyNext_list_end (I.ok.hd hc) st p.isList (by simp;lia) λh' eb=>⟨rfl,I.turned (t':=s.toks) (λb o hb e=>eb b o hb e) f0 f1 f3 f4 f5⟩
 self:=λ_ _ _ _ _ st h=>wpAny_pyIter_listiter st h
def zia{P:Ο}{w:ϋ}{K:PySem.W.Frag}{tg:Expr}(a it:Addr):Turn P w K tg (Itt K a) [it] it (λi h=>h.IsTupleIter it a i) where
 mem:=by simp
 obj:=λi h st b hb=>by
  have e:b=it:=by simpa using hb
  subst e;let⟨o,e,c,d⟩:=st;exact⟨o,e,λv z=>by rw[d]at z;cases z⟩
 keep:=λi h h' st k=>st.at λo e=>k it (by simp) o e
 item:=by intro X hP hw hK hc i pins s σ H E I hf st hg;subst hP hw hK;let⟨xs,x,hq,hx⟩:=hg;let⟨its,rv,p,hz⟩:=I.tuple hq;let⟨u,hu,ru⟩:=rv.get hx;let⟨f0,f1,f2,f3,f4,f5⟩:=hf it (by simp);refine wpAny_pyNext_tuple_item st (show s.heap.IsTuple a its.toArray from p) (x:=u) (by simpa using hu) λh' st' sb=>?_;have I1:=I.turned (t':=s.toks) (λb o hb e=>(sb.2 b hb).trans e) f0 f1 f3 f4 f5;let⟨o,e,c,d⟩:=id st';exact⟨u,rfl,zpi e c d (by decide) ⟨x,H,I1,ru,⟨rfl,λys hy=>by rw[I.tuple_inj hy hq];exact hx⟩,st',λb hb=>(hf b hb).1⟩⟩
 done:=by intro X hP hw hK hc i pins s σ H E I hf st hg;subst hP hw hK;let⟨xs,hq,hx⟩:=hg;let⟨its,rv,p,hz⟩:=I.tuple hq;let⟨f0,f1,f2,f3,f4,f5⟩:=hf it (by simp);have hl:=rv.length;exact wpAny_pyNext_tuple_end (I.ok.hd hc) st (show s.heap.IsTuple a its.toArray from p) (by simp;lia) λh' eb=>⟨rfl,I.turned (t':=s.toks) (λb o hb e=>eb b o hb e) f0 f1 f3 f4 f5⟩
 self:=λ_ _ _ _ _ st h=>wpAny_pyIter_tupleiter st h
def zib{P:Ο}{w:ϋ}{K:PySem.W.Frag}{G:Expr}(it:Addr)(lo:Int)(n:Nat):Turn P w K G (Itr lo n) [it] it (λi h=>IsRangeIter h it (lo+(i:Nat)*1) ((n:Int)-(i:Nat)) 1) where
 mem:=by simp
 obj:=λi h st b c=>by
  have e:b=it:=by simpa using c
  subst e;exact⟨_,st,λv z=>by have J:=z;cases J⟩
 keep:=λi h f st k=>k it (by simp) _ st
 item:=by intro X j l m p i a s B H E I g st q;subst j l m;let⟨r,u,L,x,y,A⟩:=g it (by simp);have W:=Walks.range (prog:=X.prog) (w:=X.w) (I.ok.hd p) it lo 1 n;refine W.item i s _ _ q st λv f C M d N=>?_;let⟨t,rfl⟩:=M;have O:Inv X a B H {s with heap:=f,toks:=C}:=I.turned (λb o c e=>N b o (by simpa using c) e) r u x y A;refine⟨_,rfl,zpi d rfl rfl (by decide) ⟨.int (lo+i),H,O,⟨t,?_⟩,⟨rfl,rfl⟩,d,λb c=>(g b c).1⟩⟩;rw[Int.mul_one]
 done:=by intro X j l m p i a s B H E I g st q;let⟨r,u,L,x,y,A⟩:=g it (by simp);exact wpAny_pyNext_range_end (I.ok.hd p) st (by have:n<=i:=q;lia) λf Q=>⟨rfl,I.turned (λb o c e=>Q b o c e) r u x y A⟩
 self:=λ_ _ _ _ _ st h=>wpAny_pyIter_rangeiter st h
section
variable{X:Cx}{tg:Expr}
def zhk{lo a}(I:Inv X c f H s)(h:-(2^62)<=lo)(i:lo<2^62)(j:-(2^62)<=a)(k:a<2^62)(q:R (Itr lo (a-lo).toNat) H):wpAny (model X.prog X.w) X.A (pyIter (.ref s.heap.objs.size)) (PIE X c f tg R) E {s with heap:=s.heap.push {cls:=.type "range",data:=.fields #[.int lo t,.int a u,.int 1 v]},toks:=g}:=by
 refine wpAny_pyIter_range (IsRange.new ..) (small_one h i j k) ?_;have d:Inv X c f H {s with heap:=s.heap.push {cls:=.type "range",data:=.fields #[.int lo t,.int a u,.int 1 v]},toks:=g}:=I.kept λb o e=>Λ _ e;refine⟨(s.heap.push {cls:=.type "range",data:=.fields #[.int lo t,.int a u,.int 1 v]}).objs.size,[(s.heap.push {cls:=.type "range",data:=.fields #[.int lo t,.int a u,.int 1 v]}).objs.size],_,_,H,rfl,
  d.kept λb o e=>Λ _ e,zib _ lo (a-lo).toNat,?_,λb l=>?_,q⟩
 have m:lo+((0:Nat):Int)*1=lo:=by simp
 have n:(((a-lo).toNat:Nat):Int)-((0:Nat):Int)=Builtin.Range.rangeSize lo a 1:=by rw[rangeSize_one];split<;>lia
 rw[m,n];exact Ι _ rfl;have e:b=(s.heap.push {cls:=.type "range",data:=.fields #[.int lo t,.int a u,.int 1 v]}).objs.size:=by simpa using l
 subst e;exact d.fpOk (le_refl _) (d.hok.fresh (le_refl _))
abbrev ztS(a:TA):TI:=λb H R=>a b H λc d=>∃j:Int,c=[.int j]/\-(2^62)<=j/\j<2^62/\R (Itr 0 j.toNat) d
abbrev ztR(a:TA):TI:=λb H R=>a b H λc d=>∃i j:Int,c=[.int i,.int j]/\(-(2^62)<=i/\i<2^62/\-(2^62)<=j/\j<2^62)/\R (Itr i (j-i).toNat) d
def zjK(d:Gl X "range")(f:X.mg "range"=Ψ)(g:PA X [a] i)(hs:starEach [a] X.env=[(Δ,eval a X.env)]:=by rfl):PI X tg (.Call (.Name "range" p) [a] [] pos) (ztS i):=by intro b s k H R I h;refine Call_ (zdG I d f boot_range (PyProof.Rows.callWith_type1 (thn (g pos b s k H _ I h) λu v z=>?_) hs rfl));let⟨w,x,l,m,c⟩:=z;let⟨j,e,c,n,q⟩:=c;subst e;cases m with| cons r o=>cases o;let⟨t,rfl⟩:=r;exact call_range_1 (zhk l (by lia) (by lia) c n (by simpa using q))
def zjJ(k:Gl X "range")(l:X.mg "range"=Ψ)(m:PA X [a,b] n)(hs:starEach [a,b] X.env=[(Δ,eval a X.env),(Δ,eval b X.env)]:=by rfl)(c:starEach [b] X.env=[(Δ,eval b X.env)]:=by rfl):
  PI X tg (.Call (.Name "range" p) [a,b] [] pos) (ztR n):=by
 intro d s o H R I h;refine Call_ (zdG I k l boot_range (PyProof.Rows.callWith_type1 (thn (m pos d s o H _ I h) λA B ⟨C,E,u,v,f⟩=>?_) (by rw[hs,c]) (by rw[c];rfl)));let⟨i,j,e,⟨f,w,x,y⟩,q⟩:=f;subst e;cases v with| cons r g=>cases g with| cons z g=>cases g;let⟨t,rfl⟩:=r;let⟨G,rfl⟩:=z;exact call_range_2 (zhk u f w x y q)
abbrev tFor(f:TI)(g:TG)(h:TS):TS:=λD a H=>f a H λJ j=>∃W:Nat->Nat->St->Hp->Prop,(∃m,W 0 m a j)/\∀i m a H,W i m a H->
 (J.stop i H/\D.nx a H)\/(J.go i H/\∃N:St->Hp->Prop,(∀b c,N b c->∃e,e<m/\W (i+1) e b c)/\∀x c,J.yld i H x c->g x a c λd k=>h {D with nx:=N,ct:=N,bk:=D.nx} d k)
abbrev zfD(a:List Addr)(h:Heap):List (Addr×Obj):=a.filterMap λb=>(h.get? b).map λo=>(b,o)
def zbW(a:b∈c)(e:h.get? b=Φ o):(b,o)∈zfD c h:=List.mem_filterMap.mpr ⟨b,a,by rw[e];rfl⟩
def zjQ(a:p∈zfD c h):p.1∈c/\h.get? p.1=Φ p.2:=by
 let⟨b,d,e⟩:=List.mem_filterMap.mp a;cases q:h.get? b with
 |none=>rw[q]at e;exact nS e
 |some o=>rw[q]at e;have f:=Option.some.inj e;subst f;exact⟨d,q⟩
def Inv.pinned(I:Inv X a h H s)(i:∀b∈c,FpOk X a H b)(j:∀b∈c,∃o,s.heap.get? b=Φ o/\∀v,o.data≠.cell v):Inv X (a++zfD c s.heap) h H s:=I.pins_of λp k=>(mem_append.mp k).elim (λz=>I.pin p (mem_append_right _ z)) λz=>by let⟨f,e⟩:=zjQ z;let⟨l,m,n,_⟩:=i p.1 f;let⟨o,g,d⟩:=j p.1 f;rw[e]at g;cases g;exact⟨e,l,m,n,d⟩
def Inv.unpinned(I:Inv X (a++d) b H s):Inv X a b H s:=I.pins_of λp c=>I.pin p (mem_append_right _ (mem_append_left _ c))
def zrd(G:PassesOwn (model X.prog X.w) X.A X.env X.xe)(hc:X.calm=Γ)(hi:PI X tg A wi)(hg:PG X tg g)(j:PSs X L tb)(hs:∀x,foldedSetIterable A X.env x=pure x:=by intro _;rfl):PS X (.For tg A L [] pos) (tFor wi g tb):=by
 intro a s σ H D I h;refine wpAny_For (thn (hi a s σ H _ I h) λv s1 h1=>thn h1 λitv s2 h2=>?_) hs;let⟨it,M,tn,J,H2,e,I2,T,st2,f2,W,⟨m0,w0⟩,O⟩:=h2;subst e
 have l:∀{y:Hp},(∀b∈M,y b=Ψ)->∀b∈M,FpOk X a y b:=λhn b j=>⟨hn b j,(f2 b j).2⟩;refine codeAny_forLoop_any (λn s'=>∃i p y,Inv X a p y s'/\tn i s'.heap/\(∀b∈M,y b=Ψ)/\W i n p y) ?_ m0 ⟨0,σ,H2,I2,st2,λb j=>(f2 b j).1,w0⟩;rintro n s3 ⟨i,q,H3,I3,U,Y,w3⟩;rcases O i n q H3 w3 with⟨stop,qn⟩|⟨go,N,hN,step⟩;refine wpAny_passesOwn G (thn (T.done X rfl rfl rfl hc i a s3 q H3 X.xe I3 (l Y) U stop) λr s4 k=>?_);let⟨hr,I4⟩:=k;subst hr;exact wpAny_execs_nil ⟨q,H3,I4,qn⟩;refine wpAny_passesOwn G (thn (T.item X rfl rfl rfl hc i a s3 q H3 X.xe I3 (l Y) U go) λr s4 z=>?_);let⟨u,hr,h4⟩:=z;subst hr;refine wpAny_passesOwn G (thn h4 λ_ s5 z=>?_);let⟨x,H5,I5,r5,y5,E,fr5⟩:=z;have I5':=I5.pinned (l fr5) (T.obj _ _ E);refine wpAny_passesOwn G (thn (hg _ s5 q H5 x u _ I5' r5 (step x H5 y5)) λ_ s6 z=>?_);let⟨σ6,H6,I6,q6⟩:=z;refine wpAny_passesOwn G (thn (j _ s6 σ6 H6 _ I6 q6) λf s7 C=>?_);have again:∀{c:St}{t:Hp},Inv X (a++zfD M s5.heap) c t s7->N c t->∃m,m<n/\∃i p y,Inv X a p y s7/\tn i s7.heap/\(∀b∈M,y b=Ψ)/\W i m p y:=λ{c t} w n7=>by let⟨m',hm,w7⟩:=hN c t n7;refine⟨m',hm,i+1,c,t,w.unpinned,T.keep _ _ _ E λb j o e=>(w.pin (b,o) (mem_append_right _ (mem_append_right _ (zbW j e)))).1,λb j=>?_,w7⟩;let⟨o,e,d⟩:=T.obj _ _ E b j;exact(w.pin (b,o) (mem_append_right _ (mem_append_right _ (zbW j e)))).2.1
 cases f with|next=>let⟨c,t,w,n7⟩:=C;exact again w n7|cont=>let⟨c,t,w,n7⟩:=C;exact again w n7|brk=>let⟨c,t,w,C⟩:=C;exact⟨c,t,w.unpinned,C⟩|ret v=>let⟨x7,c,t,w,r7,C⟩:=C;exact⟨x7,c,t,w.unpinned,r7,C⟩
end
@[reducible]def R2:=V->V->Hp->VK->Prop
abbrev OpR(X:Cx)(f:Ξ->Ξ->Sem Ξ)(r:R2):Prop:=
 ∀(a:List (Addr×Obj))(s:Ζ)(b:St)(H:Hp)(x y:V)(v u:Ξ)(Q:VK),Inv X a b H s->RelV x v->RelV y u->r x y H Q->
  wpAny (model X.prog X.w) X.A (f v u) (EP X a b Q) X.xe s
abbrev UnR(X:Cx)(f:Ξ->Sem Ξ)(r:V->Hp->VK->Prop):Prop:=
 ∀(a:List (Addr×Obj))(s:Ζ)(b:St)(H:Hp)(x:V)(v:Ξ)(Q:VK),Inv X a b H s->RelV x v->r x H Q->
  wpAny (model X.prog X.w) X.A (f v) (EP X a b Q) X.xe s
abbrev zbi(X:Cx)(f:Ξ)(r:List V->Hp->VK->Prop):Prop:=
 ∀(a:List (Addr×Obj))(s:Ζ)(b:St)(H:Hp)(c:List V)(d:List Ξ)(Q:VK),Inv X a b H s->Vals c d->r c H Q->
  wpAny (model X.prog X.w) X.A (call f d) (EP X a b Q) X.xe s
abbrev TruR(X:Cx)(r:V->Hp->(Bool->Hp->Prop)->Prop):Prop:=
 ∀(a:List (Addr×Obj))(s:Ζ)(b:St)(H:Hp)(x:V)(v:Ξ)(Q:Bool->Hp->Prop),Inv X a b H s->RelV x v->r x H Q->
  wpAny (model X.prog X.w) X.A (truthy v) (TP X a b Q) X.xe s
abbrev tOp(r:R2)(b c:TE):TE:=λa H Q=>b a H λx d=>c a d λy e=>r x y e Q
abbrev tUn(r:V->Hp->VK->Prop)(a:TE):TE:=λb H Q=>a b H λx c=>r x c Q
abbrev rI(C:Int->Int->Prop)(g:Int->Int->V):R2:=λx y H Q=>∃i j,x=.int i/\y=.int j/\C i j/\Q (g i j) H
abbrev rI0(g:Int->Int->V):R2:=λx y H Q=>∃i j,x=.int i/\y=.int j/\Q (g i j) H
abbrev rU(g:Int->V):V->Hp->VK->Prop:=λx H Q=>∃i,x=.int i/\Q (g i) H
section
variable{X:Cx}{a b c:Expr}{ta tb tc:TE}{pos:Pos}
def binT(m:PE X a ta)(n:PE X b tb){R:V->V->Hp->Prop}(I:Inv X d g H s)(h:ta g H λx l=>tb g l λy e=>R x y e){f:Ξ->Ξ->Sem Ξ}(o:∀v u k x y e,Inv X d g e k->RelV x v->RelV y u->R x y e->wpAny (model X.prog X.w) X.A (f v u) Q X.xe k):
  wpAny (model X.prog X.w) X.A (eval a X.env) (λv i=>wpAny (model X.prog X.w) X.A (eval b X.env) (λu j=>wpAny (model X.prog X.w) X.A (f v u) Q X.xe j) X.xe i) X.xe s:=by
 refine thn (m d s g H _ I h) λv p z=>?_;let⟨x,l,q,r,t⟩:=z;refine thn (n d p g l _ q t) λu k z=>?_;let⟨y,e,w,A,B⟩:=z;exact o v u k x y e w r A B
def zrl(e:OpR X (binaryOp op) r)(f:PE X a ta)(g:PE X b tb):PE X (.BinOp a op b pos) (tOp r ta tb):=by intro d s i H Q I h;exact wpAny_BinOp (binT f g I h λv u j x y k l m n q=>e d j i k x y v u Q l m n q)
def ztx(f:UnR X (unaryOp op) r)(g:PE X a ta):PE X (.UnaryOp op a pos) (tUn r ta):=by intro d s e H Q I h;exact UnaryOp_ (thn (g d s e H _ I h) λv i z=>(by let⟨x,j,k,l,m⟩:=z;exact f d i e j x v Q k l m))
def opI{g:Int->Int->Int}(rule:∀(i j:Int)(t u:Tok)(s:Ζ)(Q:Ξ->Ζ->Prop)(E:Ξ->Ζ->Prop),C i j->Q (.int (g i j) s.toks) {s with toks:=s.toks+1}->wpAny (model X.prog X.w) X.A (f (.int i t) (.int j u)) Q E s):
  OpR X f (rI C λi j=>.int (g i j)):=by
 intro d s n H x y v u Q I e k h;let⟨i,j,rfl,rfl,l,q⟩:=h;let⟨t,rfl⟩:=e;let⟨m,rfl⟩:=k;exact rule i j t m s _ _ l ⟨.int (g i j),H,I.tok _,⟨_,rfl⟩,q⟩
def opI0{g:Int->Int->Int}(rule:∀(i j:Int)(t u:Tok)(s:Ζ)(Q:Ξ->Ζ->Prop)(E:Ξ->Ζ->Prop),Q (.int (g i j) s.toks) {s with toks:=s.toks+1}->wpAny (model X.prog X.w) X.A (f (.int i t) (.int j u)) Q E s):
  OpR X f (rI0 λi j=>.int (g i j)):=by
 intro d s m H x y v u Q I e k h;let⟨i,j,rfl,rfl,q⟩:=h;let⟨t,rfl⟩:=e;let⟨l,rfl⟩:=k;exact rule i j t l s _ _ ⟨.int (g i j),H,I.tok _,⟨_,rfl⟩,q⟩
def opB0{g:Int->Int->Bool}(rule:∀(i j:Int)(t u:Tok)(s:Ζ)(Q:Ξ->Ζ->Prop)(E:Ξ->Ζ->Prop),Q (.bool (g i j)) s->wpAny (model X.prog X.w) X.A (f (.int i t) (.int j u)) Q E s):
  OpR X f (rI0 λi j=>.bl (g i j)):=by
 intro d s m H x y v u Q I e k h;let⟨i,j,rfl,rfl,q⟩:=h;let⟨t,rfl⟩:=e;let⟨l,rfl⟩:=k;exact rule i j t l s _ _ ⟨.bl (g i j),H,I,rfl,q⟩
abbrev CDiv(i j:Int):Prop:=0<j/\j<1073741824
abbrev CPow(i j:Int):Prop:=0<=j/\j<=1000000/\i.natAbs<2^64
abbrev CMul(i j:Int):Prop:=(-(2^64)<i/\i<2^64)\/(-(2^64)<j/\j<2^64)
def CMul.ok(h:CMul i j):IntMulOk i j:=by rcases h with⟨d,e⟩|⟨d,e⟩;exact .of_left (intBits_le_64 d e);exact .of_right (intBits_le_64 d e)
def zrH:OpR X (binaryOp .Add) (rI0 λi j=>.int (i+j)):=opI0 λ_ _ _ _ _ _ _ q=>add_int q
def zry:OpR X (binaryOp .Sub) (rI0 λi j=>.int (i-j)):=opI0 λ_ _ _ _ _ _ _ q=>sub_int q
def zrC:OpR X (binaryOp .Mult) (rI CMul λi j=>.int (i*j)):=opI λ_ _ _ _ _ _ _ d q=>mul_int q d.ok
def zoJ:OpR X (binaryOp .FloorDiv) (rI CDiv λi j=>.int (i/j)):=opI λi j _ _ _ _ _ d q=>by have e:=d.1;have f:=d.2;exact floordiv_int (by lia) (by rw[Int.fdiv_eq_ediv_of_nonneg i (by lia)];exact q) (.inl (PyProof.noPylong_small (by lia)))
def zrD:OpR X (binaryOp .Mod) (rI (λ_ j=>0<j) λi j=>.int (i%j)):=opI λi j _ _ _ _ _ d q=>mod_int' (by lia) (by rw[Int.fmod_eq_emod_of_nonneg i (by lia)];exact q)
def zrA:OpR X (binaryOp .Pow) (rI CPow λi j=>.int (i^j.toNat)):=opI λ_ _ _ _ _ _ _ d q=>pow_int_small d.1 d.2.1 d.2.2 q
def unI{g:Int->Int}(rule:∀(i:Int)(t:Tok)(s:Ζ)(Q:Ξ->Ζ->Prop)(E:Ξ->Ζ->Prop),Q (.int (g i) s.toks) {s with toks:=s.toks+1}->wpAny (model X.prog X.w) X.A (f (.int i t)) Q E s):
  UnR X f (rU λi=>.int (g i)):=by
 intro d s j H x v Q I e h;let⟨i,rfl,q⟩:=h;let⟨t,rfl⟩:=e;exact rule i t s _ _ ⟨.int (g i),H,I.tok _,⟨_,rfl⟩,q⟩
def zp8:UnR X (unaryOp .USub) (rU λi=>.int (-i)):=unI λ_ _ _ _ _ q=>neg_int q
end
abbrev scal:V->V->Bool
 |.non,.non=>Γ|.non,.int _=>Γ|.int _,.non=>Γ|.non,.bl _=>Γ|.bl _,.non=>Γ|.non,.str _=>Γ|.str _,.non=>Γ
 |.int _,.int _=>Γ|.bl _,.bl _=>Γ|.str _,.str _=>Γ|.byt _,.byt _=>Γ
 |.int _,.str _=>Γ|.str _,.int _=>Γ|.bl _,.str _=>Γ|.str _,.bl _=>Γ
 |_,_=>Δ
abbrev rEq:R2:=λx y H Q=>scal x y=Γ/\Q (.bl (decide (x=y))) H
abbrev rNe:R2:=λx y H Q=>scal x y=Γ/\Q (.bl (!decide (x=y))) H
def zkQ:decide (V.int i=V.int j)=(i==j):=by rw[Bool.eq_iff_iff];simp
def znk:decide (V.bl i=V.bl j)=(i==j):=by rw[Bool.eq_iff_iff];simp
def zkP:decide (V.str i=V.str j)=(i==j):=by rw[Bool.eq_iff_iff];simp
def zkR:decide (V.byt i=V.byt j)=(i.toList==j.toList):=by rw[Bool.eq_iff_iff];cases i;cases j;simp
section
variable{X:Cx}{a b c:Expr}{ta tb tc:TE}{pos:Pos}
def zaw(I:Inv X d f H s)(q:Q (.bl k) H)(e:k=k'):EP X d f Q (.bool k') s:=by subst e;exact⟨.bl k,H,I,rfl,q⟩
def ztH:OpR X (compareOp .Eq) rEq:=by
 intro k s l H x y v u Q I g d h;let⟨f,q⟩:=h;cases x with
 |non=>cases g;cases y with|non=>cases d;exact PySem.EqNone.eq_none_none (zaw I q (by simp))|bl j=>cases d;exact PySem.EqNone.eq_none_bool (zaw I q (by simp))|int j=>let⟨e,rfl⟩:=d;exact PySem.EqNone.eq_none_int (zaw I q (by simp))|str j=>let⟨e,rfl⟩:=d;exact PySem.EqNone.eq_none_str (zaw I q (by simp))|_=>exact absurd (show Δ=Γ from f) Κ
 |bl i=>cases g;cases y with|non=>cases d;exact PySem.EqNone.eq_bool_none (zaw I q (by simp))|bl j=>cases d;exact eq_bool (zaw I q znk)|str j=>let⟨e,rfl⟩:=d;exact PySem.EqMixed.eq_bool_str (zaw I q (by simp))|_=>exact absurd (show Δ=Γ from f) Κ
 |int i=>let⟨t,rfl⟩:=g;cases y with|non=>cases d;exact PySem.EqNone.eq_int_none (zaw I q (by simp))|int j=>let⟨e,rfl⟩:=d;exact eq_int (zaw I q zkQ)|str j=>let⟨e,rfl⟩:=d;exact PySem.EqMixed.eq_int_str (zaw I q (by simp))|_=>exact absurd (show Δ=Γ from f) Κ
 |str i=>let⟨t,rfl⟩:=g;cases y with|non=>cases d;exact PySem.EqNone.eq_str_none (zaw I q (by simp))|bl j=>cases d;exact PySem.EqMixed.eq_str_bool (zaw I q (by simp))|int j=>let⟨e,rfl⟩:=d;exact PySem.EqMixed.eq_str_int (zaw I q (by simp))|str j=>let⟨e,rfl⟩:=d;exact eq_str (zaw I q zkP)|_=>exact absurd (show Δ=Γ from f) Κ
 |byt i=>let⟨t,rfl⟩:=g;cases y with|byt j=>let⟨e,rfl⟩:=d;exact PySem.W.eq_bytes (zaw I q zkR)|_=>exact absurd (show Δ=Γ from f) Κ
 |_=>cases y<;>exact absurd (show Δ=Γ from f) Κ
def ztC:OpR X (compareOp .NotEq) rNe:=by
 intro k s l H x y v u Q I g d h;let⟨f,q⟩:=h;cases x with
 |non=>cases g;cases y with|non=>cases d;exact PySem.EqNone.ne_none_none (zaw I q (by simp))|bl j=>cases d;exact PySem.EqNone.ne_none_bool (zaw I q (by simp))|int j=>let⟨e,rfl⟩:=d;exact PySem.EqNone.ne_none_int (zaw I q (by simp))|str j=>let⟨e,rfl⟩:=d;exact PySem.EqNone.ne_none_str (zaw I q (by simp))|_=>exact absurd (show Δ=Γ from f) Κ
 |bl i=>cases g;cases y with|non=>cases d;exact PySem.EqNone.ne_bool_none (zaw I q (by simp))|bl j=>cases d;exact ne_bool (zaw I q (congrArg not znk))|str j=>let⟨e,rfl⟩:=d;exact PySem.EqMixed.ne_bool_str (zaw I q (by simp))|_=>exact absurd (show Δ=Γ from f) Κ
 |int i=>let⟨t,rfl⟩:=g;cases y with|non=>cases d;exact PySem.EqNone.ne_int_none (zaw I q (by simp))|int j=>let⟨e,rfl⟩:=d;exact ne_int (zaw I q (congrArg not zkQ))|str j=>let⟨e,rfl⟩:=d;exact PySem.EqMixed.ne_int_str (zaw I q (by simp))|_=>exact absurd (show Δ=Γ from f) Κ
 |str i=>let⟨t,rfl⟩:=g;cases y with|non=>cases d;exact PySem.EqNone.ne_str_none (zaw I q (by simp))|bl j=>cases d;exact PySem.EqMixed.ne_str_bool (zaw I q (by simp))|int j=>let⟨e,rfl⟩:=d;exact PySem.EqMixed.ne_str_int (zaw I q (by simp))|str j=>let⟨e,rfl⟩:=d;exact ne_str (zaw I q (congrArg not zkP))|_=>exact absurd (show Δ=Γ from f) Κ
 |byt i=>let⟨t,rfl⟩:=g;cases y with|byt j=>let⟨e,rfl⟩:=d;exact PySem.W.ne_bytes (zaw I q (congrArg not zkR))|_=>exact absurd (show Δ=Γ from f) Κ
 |_=>cases y<;>exact absurd (show Δ=Γ from f) Κ
def ztD:OpR X (compareOp .Lt) (rI0 λi j=>.bl (decide (i<j))):=opB0 λ_ _ _ _ _ _ _ q=>lt_int q
def ztE:OpR X (compareOp .LtE) (rI0 λi j=>.bl (decide (i<=j))):=opB0 λ_ _ _ _ _ _ _ q=>le_int q
def ztF:OpR X (compareOp .Gt) (rI0 λi j=>.bl (decide (j<i))):=opB0 λ_ _ _ _ _ _ _ q=>gt_int q
def ztG:OpR X (compareOp .GtE) (rI0 λi j=>.bl (decide (j<=i))):=opB0 λ_ _ _ _ _ _ _ q=>ge_int q
def zoG(e:OpR X (compareOp op) r)(f:PE X a ta)(g:PE X b tb)(i:behindInMarks op b=Δ):PE X (.Compare a [op] [b] pos) (tOp r ta tb):=by intro d s j H Q I h;exact wpAny_Compare1 (binT f g I h λv u k x y l m n o q=>e d k j l x y v u Q m n o q) i
abbrev zqk(t:TE):TT:=λd H Q=>t d H λx e=>∃k,x=.bl k/\Q k e
def zou(g:OpR X (compareOp op) r)(i:PE X a ta)(l:PE X b tb)(m:behindInMarks op b=Δ):PT X (.Compare a [op] [b] pos) (zqk (tOp r ta tb)):=by intro d s f H Q I h;refine wpAny_isTrue_Compare1 (thn (i d s f H _ I h) λv n z=>eY z λx o p q t=>thn (l d n f o _ p t) λu w z=>eY z λy A B C E=>thn (g d w f A x y v u _ B q C E) λc N j=>?_) m;let⟨z,G,J,L,k,e,M⟩:=j;subst e;cases L;exact Ϙ ⟨G,J,M⟩
abbrev zmN(r f:R2)(ta tb tc:TE):TE:=λd H Q=>ta d H λx g=>tb d g λy h=>r x y h λz e=>∃k,z=.bl k/\
 (if k=Γ then tc d e λi j=>f y i j Q else Q (.bl Δ) e)
def zlY(t:OpR X (compareOp op) r)(l:OpR X (compareOp g) w)(A:PE X a ta)(B:PE X b tb)(C:PE X c tc)(E:lastMarks [op,g] [b,c]=Δ:=by with_unfolding_all rfl):PE X (.Compare a [op,g] [b,c] pos) (zmN r w ta tb tc):=by
 intro f s i H Q I h;refine Compare_chain (thn (A f s i H _ I h) λv G z=>eY z λx J L M N=>chain_link (thn (B f G i J _ L N) λu O z=>eY z λy T U m Y=>thn (t f O i T x y v u _ U M m Y) λd s3 j=>?_)) E;let⟨z,n,o,r3,k,e,q⟩:=j;subst e;cases r3;refine Ϙ ?_;cases k with|false=>exact ite_ff ⟨.bl Δ,n,o,rfl,q⟩|true=>exact ite_tt (chain_last (thn (C f s3 i n _ o q) λw' s4 p=>(by let⟨z',H4,I4,r4,q4⟩:=p;exact l f s4 i H4 y z' u w' Q I4 m r4 q4)))
def zlG(q:OpR X (compareOp op) r)(l:OpR X (compareOp g) t)(w:PE X a ta)(A:PE X b tb)(B:PE X c tc)(C:lastMarks [op,g] [b,c]=Δ:=by with_unfolding_all rfl):PT X (.Compare a [op,g] [b,c] pos) (zqk (zmN r t ta tb tc)):=by
 intro f s i H Q I h;refine isTrue_chain (thn (w f s i H _ I h) λv E z=>eY z λx G J L M=>test_link (thn (A f E i G _ J M) λu N z=>eY z λy O T m U=>thn (q f N i O x y v u _ T L m U) λd Y j=>?_)) C;let⟨z,n,o,r3,k,e,p⟩:=j;subst e;cases r3;refine Ϙ ?_;cases k with| false=>let⟨k',e',q'⟩:=p;cases e';exact ite_ff ⟨n,o,q'⟩| true=>refine ite_tt (test_last (thn (B f Y i n _ o p) λw' s4 z=>eY z λz' H4 I4 r4 q4=>thn (l f s4 i H4 y z' u w' _ I4 m r4 q4) λd' s5 j=>?_));let⟨z2,H5,I5,r5,k2,e2,q5⟩:=j;subst e2;cases r5;exact Ϙ ⟨H5,I5,q5⟩
abbrev TruV(K:PySem.W.Frag)(x:V)(H:Hp)(k:Bool):Prop:=match x with|.non=>k=Δ|.bl b=>k=b|.int i=>k=(i != 0)|.str y=>y.length<=sizeLine/\k=((y.length:Int) != 0)|.byt y=>y.size<=sizeLine/\k=((y.size:Int) != 0)|.ref p=>(∃d,SqL K H p d/\k = !d.isEmpty)\/(∃d,SqT K H p d/\k = !d.isEmpty)\/∃e,H p=Φ (.dK e)/\k = !e.isEmpty|_=>False
def ziy(r:KV kvs vs):(!vs.isEmpty) = !kvs.isEmpty:=by cases r<;>rfl
def zer(r:Vals xs its):(!its.toArray.isEmpty) = !xs.isEmpty:=by cases r<;>simp
def zep:(sizeLine:Nat)<2^63:=by decide
def zqc:TruR X (λx H Q=>∃k,TruV X.K x H k/\Q k H):=by
 intro z s E H x v Q I l h;let⟨k,e,q⟩:=h;have J:=Χ;cases x with
 |non=>cases l;have d:=e;subst d;exact truthy_none ⟨H,I,q⟩| bl b=>cases l;have d:=e;subst d;exact Ϙ ⟨H,I,q⟩| int i=>let⟨t,rfl⟩:=l;have d:=e;subst d;exact PySem.P.truthy_int ⟨H,I,q⟩| str y=>let⟨t,rfl⟩:=l;obtain⟨B,d⟩:y.length<=sizeLine/\k=((y.length:Int) != 0):=e;subst d;exact PySem.P.truthy_str (by lia) ⟨H,I.tok _,q⟩| byt y=>let⟨t,rfl⟩:=l;obtain⟨B,d⟩:y.size<=sizeLine/\k=((y.size:Int) != 0):=e;subst d;exact PySem.W.truthy_bytes (by lia) ⟨H,I.tok _,q⟩| ref p=>cases l;have d:=e;rcases d with⟨j,n,d⟩|⟨j,n,d⟩|⟨f,n,d⟩;subst d;let⟨u,r,w,A⟩:=I.list n;have g:=r.length;exact wpAny_truthy_list w.isList (by simp![size_toArray];lia) ⟨H,I.tok _,by rw[zer r];exact q⟩;subst d;let⟨u,r,w,A⟩:=I.tuple n;have g:=r.length;exact truthy_tuple w (by simp![size_toArray];lia) ⟨H,I.tok _,by rw[zer r];exact q⟩;subst d;obtain⟨A,C,o,r,m⟩:f.length<=sizeLine/\(p==sysModules)=Δ/\∃o,KV f o/\s.heap.DictOf (zat X.prog X.w) p o:=I.hok p _ n;have g:=Paired.length r;exact wpAny_truthy_dict C m (by lia) ⟨H,I.tok _,by rw[ziy r];exact q⟩
 |_=>exact(show False from e).elim
def zlF(g:PE X a ta)(i:∀d,isTrue a X.env d=(do let v <-d;standAt a.pos;holding [v] (truthy v))) :
  PT X a (λf H Q=>ta f H λx H'=>∃k,TruV X.K x H' k/\Q k H'):=by
 intro e s f H Q I h;exact isTrue_plain (thn (g e s f H _ I h) λv j z=>(by let⟨x,l,m,n,o⟩:=z;exact zqc e j f l x v Q m n o)) (i _)
def ziX(r:Vals [x] us):∃u,us=[u]/\RelV x u:=by cases r with|cons d e=>cases e;exact⟨_,rfl,d⟩
def zny(r:Vals [x,y] us):∃u d,us=[u,d]/\RelV x u/\RelV y d:=by cases r with| cons e f=>cases f with|cons g h=>cases h;exact⟨_,_,rfl,e,g⟩
def zmB:zbi X (.builtin "abs") (λxs H Q=>∃i,xs=[.int i]/\Q (.int (if i<0 then -i else i)) H):=by intro d s e H xs f Q I r h;let⟨i,rfl,q⟩:=h;let⟨u,rfl,t,rfl⟩:=ziX r;exact call_abs_int λu g=>⟨.int (if i<0 then -i else i),H,I.tok _,⟨_,rfl⟩,q⟩
end
structure ObjM(h:Heap)(x dx C:Addr)(mA:Str->Option Ξ):Prop where
 obj:h.get? x=Φ (instObj C dx)
 ns:h.Ns1 dx mA
 ne:dx≠x
def zfI{h:Heap}(n:h.Ns1 d f):∃od,h.get? d=Φ od/\∀name,lookIn name od=Φ (f name):=by
 let⟨o,c,p,g,i,j,_,k⟩:=n;refine⟨o,g,λname=>?_⟩;have e:=k name;unfold nsFind findBy at e;rw[<-Array.find?_toList]at e;unfold lookIn;rw[i];dsimp only;split;rename_i y q;rw[q]at e;exact congrArg Φ e;rename_i q;rw[q]at e;have a:c.toList.any (·.refKey)=Δ:=by rw[List.any_eq_false];intro y l;let⟨z,t,b⟩:=j y (Array.mem_toList_iff.mp l);simp[DictEntry.refKey,b]
 have m:¬c.toList.any (·.refKey)=Γ:=by rw[a];exact Κ
 rw[if_neg m];exact congrArg Φ e
def ObjM.look(I:ObjM h x a C b):∃od,PySem.W.InstAt h x (instObj C a) C (Φ od)/\∀name,lookIn name od=Φ (b name):=
 let ⟨od,c,d⟩:=zfI I.ns
 ⟨od,⟨I.obj,rfl,rfl,c⟩,d⟩
section
variable{prog:Ο}{w:ϋ}{A:ϐ}{E:Ξ->Ζ->Prop}{s:Ζ}{K:PySem.W.Frag}{x dx C f:Addr}{mA:Str->Option Ξ}{name:Str}{v:Ξ}
def zpk(X:K.In s.heap)(I:ObjM s.heap x dx C mA)(c:plainGet K C name=Γ)(d:PySem.W.hasDictIn K C=Γ)(e:PySem.W.findIn K (.ref C) name=Φ Ψ)(g:mA name=Φ v)(a:handedIn v=Γ)(h:Q v {s with toks:=s.toks+1}):
  wpAny (model prog w) A (getAttr (.ref x) name b) Q E s:=by
 let⟨j,J,i⟩:=I.look;exact PySem.W.get_value X J (plainGet_of c).1 (PySem.W.findObj_own d e rfl (by rw[i,g])) a h
def zmn(X:K.In s.heap)(I:ObjM s.heap x dx C mA)(a:plainGet K C name=Γ)(hf:PySem.W.findIn K (.ref C) name=Φ (Φ (.ref f)))(b:isFn K (.ref f)=Γ)(c:mA name=Ψ)(h:Q (.ref f,[.ref x]) s):
  wpAny (model prog w) A (getMethod (.ref x) name g) Q E s:=by
 let⟨d,J,e⟩:=I.look;exact PySem.W.method_fn X J (plainGet_of a).1 (plainGet_of a).2 hf (beq_iff_eq.mp b) (by show(lookIn name d).map (·.isSome)=Φ Δ;rw[e,c];rfl) h
def znS(X:K.In s.heap)(I:ObjM s.heap x dx C mA)(hs:PySem.W.findIn K (.ref C) "__setattr__"=Φ (Φ (.builtin "object.__setattr__")))(k:plainOver K C=Γ)(l:takerIn K C name=Φ Ψ)(m:PySem.W.hasDictIn K C=Γ)(hw:PySem.Within mA ns)(hsz:ns.length<=sizeLine)(h:∀h',ObjM h' x dx C (λy=>if y=name then Φ v else mA y)->Heap.SameBut dx s.heap h'->Q () {s with heap:=h',toks:=s.toks+2}):
  wpAny (model prog w) A (setAttr (.ref x) name v) Q E s:=by
 let⟨t,J,u⟩:=I.look;refine PySem.W.set_plain X J hs (PySem.W.osa_open X J k l λb=>?_);let⟨z,n,e⟩:=PySem.W.any_some m;have o:=I.obj;refine Θ (Ω (Θ (Θ (wpAny_loadPart o (Θ (PySem.W.Looks.here (PySem.W.looks_clsIn X n) ?_))))));rw[e];refine Ω (Θ (Ω (Θ ?_)));refine wpAny_nsSet1 I.ns λh' c d=>?_;let⟨oD,p,q,g,i,j⟩:=c.count (PySem.Within.cons name v hw);refine Θ (wpAny_lookBehind g (by rw[i];exact pastItsLine_dict (le_trans j (by rw[ϊ];lia))) ?_);exact Ω (h _ ⟨(d.2 _ (Ne.symm I.ne)).trans I.obj,c,I.ne⟩ d)
def zhz(X:K.In s.heap)(b:makesIn K C=Γ)(c:PySem.W.findIn K (.ref C) "__init__"=Φ (Φ (.ref f)))(hf:PySem.W.typeIn K (.ref f)=Φ (.type "function"))(h:codeAny (model prog w) (A.under (.builtin "type.__call__" ⟨.ref C::vs,a⟩)) (.call (.ref f) ⟨.ref (s.heap.objs.size+1)::vs,a⟩) (PySem.W.InitBack (s.heap.objs.size+1) R)
   {s with heap:=(s.heap.push emptyDict).push (instObj C s.heap.objs.size)}):
  codeAny (model prog w) A (.call (.ref C) ⟨vs,a⟩) R s:=by
 exact PySem.W.make_core (PySem.W.makes_of X b) (PySem.W.looks_findIn X c) (λself=>PySem.W.bind_fn X self hf) (.inl rfl) h
end
abbrev putF(f:Str)(v:V):List (Str×V)->List (Str×V)
 | []=>[(f,v)]|(g,x)::r=>if g=f then(g,v)::r else(g,x)::putF f v r
def zdD(f g)(v):∀c:List (Str×V),(putF f v c).lookup g=if g=f then Φ v else c.lookup g
 | []=>by show List.lookup g [(f,v)]=_;by_cases h:g=f;have a:=beq_iff_eq.mpr h;simp![List.lookup,a,if_pos h];have a:=beq_eq_false_iff_ne.mpr h;simp![List.lookup,a,if_neg h]| (k,x)::r=>by have d:=zdD f g v r;rw[show putF f v ((k,x)::r)=(if k=f then(k,v)::r else(k,x)::putF f v r) from rfl];by_cases b:k=f;rw[if_pos b];by_cases h:g=k;have a:=beq_iff_eq.mpr h;simp![List.lookup,a,if_pos (h.trans b)];have a:=beq_eq_false_iff_ne.mpr h;simp![List.lookup,a,if_neg (λe:g=f=>h (e.trans b.symm))];rw[if_neg b];by_cases h:g=k;have a:=beq_iff_eq.mpr h;simp![List.lookup,a,if_neg (λe:g=f=>b (h.symm.trans e))];have a:=beq_eq_false_iff_ne.mpr h;simp![List.lookup,a];exact d
def zdI(f)(v):∀a:List (Str×V),f∈(putF f v a).map (·.1)/\∀g,g∈a.map (·.1)->g∈(putF f v a).map (·.1)
 | []=>⟨by simp[putF],λg h=>by simp at h⟩| (k,x)::r=>by let⟨c,d⟩:=zdI f v r;rw[show putF f v ((k,x)::r)=(if k=f then(k,v)::r else(k,x)::putF f v r) from rfl];by_cases b:k=f;subst b;exact⟨by simp,λg h=>by simpa using h⟩;rw[if_neg b];refine⟨?_,λg h=>?_⟩;exact Μ _ c;rcases mem_cons.mp h with e|e;exact mem_cons.mpr (.inl e);exact Μ _ (d g e)
def zdF(f)(v):∀a:List (Str×V),(putF f v a).length<=a.length+1
 | []=>by simp[putF]| (k,x)::r=>by have c:=zdF f v r;rw[show putF f v ((k,x)::r)=(if k=f then(k,v)::r else(k,x)::putF f v r) from rfl];by_cases b:k=f;rw[if_pos b,ϊ,ϊ];lia;rw[if_neg b,ϊ,ϊ];lia
def RelO.some_of(r:RelO (Φ v) o):∃u,o=Φ u/\RelV v u:=by cases o with|none=>exact(show False from r).elim|some u=>exact⟨u,rfl,r⟩
def RelO.none_of(r:RelO Ψ o):o=Ψ:=by cases o with|none=>rfl|some u=>exact(show False from r).elim
def zfU(r:RelV v u):handedIn u=Γ:=by cases v with|non=>cases(show u=Ξ.none from r);rfl|bl b=>cases(show u=Ξ.bool b from r);rfl|int i=>let⟨t,e⟩:=(show ∃t,u=Ξ.int i t from r);cases e;rfl|str x=>let⟨t,e⟩:=(show ∃t,u=Ξ.str x t from r);cases e;rfl|byt b=>let⟨t,e⟩:=(show ∃t,u=Ξ.bytes b t from r);cases e;rfl|flt b=>let⟨t,e⟩:=(show ∃t,u=Ξ.float b t from r);cases e;rfl|ref a=>cases(show u=Ξ.ref a from r);rfl|ty n=>cases(show u=Ξ.type n from r);rfl
section
variable{P:Ο}{w:ϋ}{H H':Hp}{h h':Heap}{a C dx:Addr}{fs fs':List (Str×V)}
def ze3(hok:HOk P w H h)(e:H a=Φ (.ins C dx fs)):∃b,ObjM h a dx C b/\(∀f,RelO (fs.lookup f) (b f))/\PySem.Within b (fs.map (·.1))/\fs.length<=1000/\H dx=Φ (.own a):=by let⟨d,z,c,g,b,n,r,q⟩:=(show ObjOk P w H h a (.ins C dx fs) from hok a _ e);exact⟨b,⟨g,n,c⟩,r,q,z,d⟩
end
structure Cls(K:PySem.W.Frag)(C:Addr):Prop where
 pg:plainGet K C Str.empty=Γ
 hd:PySem.W.hasDictIn K C=Γ
 po:plainOver K C=Γ
 sa:PySem.W.findIn K (.ref C) "__setattr__"=Φ (Φ (.builtin "object.__setattr__"))
def Cls.get{K}(c:Cls K C)(f):plainGet K C f=Γ:=c.pg
abbrev NoAttr(K:PySem.W.Frag)(C:Addr)(f:Str):Prop:=PySem.W.findIn K (.ref C) f=Φ Ψ
def NoAttr.taker{K}(n:NoAttr K C f):takerIn K C f=Φ Ψ:=by unfold takerIn;rw[show PySem.W.findIn K (.ref C) f=Φ Ψ from n];rfl
structure Con(K:PySem.W.Frag)(C:Addr)(f:Str)(v:V)(u:Ξ):Prop where
 at_:PySem.W.findIn K (.ref C) f=Φ (Φ u)
 rel:RelV v u
 get:specialIn K u "__get__"=Φ Ψ
 cp:PySem.W.copiedNames.contains f=Δ
structure Meth(K:PySem.W.Frag)(C:Addr)(m:Str)(f:Addr):Prop where
 at_:PySem.W.findIn K (.ref C) m=Φ (Φ (.ref f))
 fn:isFn K (.ref f)=Γ
 kp:keepIn K (.ref f)=Γ
section
variable{X:Cx}{pins:List (Addr×Obj)}{σ:St}{H:Hp}{s:Ζ}{a C dx:Addr}{fs:List (Str×V)}{f:Str}{v:V}{A:ϐ}{E:Ξ->Ζ->Prop}
def ziA(I:Inv X pins σ H s)(e:H a=Φ (.ins C dx fs))(c:Cls X.K C)(n:NoAttr X.K C f)(l:fs.lookup f=Φ v)(h:∀u s',Inv X pins σ H s'->RelV v u->Q u s'):wpAny (model X.prog X.w) A (getAttr (.ref a) f b) Q E s:=by
 let⟨g,O,r,_,_,_⟩:=ze3 I.hok e;let⟨u,i,d⟩:=RelO.some_of (by rw[<-l];exact r f);exact zpk I.kIn O (c.get f) c.hd n i (zfU d) (h u _ (I.tok _) d)
def zcN(I:Inv X pins σ H s)(e:H a=Φ (.ins C dx fs))(c:Cls X.K C)(k:Meth X.K C m g)(l:fs.lookup m=Ψ)(h:Q (.ref g,[.ref a]) s):wpAny (model X.prog X.w) A (getMethod (.ref a) m i) Q E s:=by
 let⟨b,O,r,_,_,_⟩:=ze3 I.hok e;have d:=RelO.none_of (by rw[<-l];exact r m);exact zmn I.kIn O (c.get m) k.at_ k.fn d h
def zif(I:Inv X pins σ H s)(e:H a=Φ (.ins C dx fs))(c:Cls X.K C)(n:NoAttr X.K C f)(L:fs.length<1000)(l:RelV y u)(h:∀s',Inv X pins σ (upd H a (.ins C dx (putF f y fs))) s'->Q () s'):wpAny (model X.prog X.w) A (setAttr (.ref a) f u) Q E s:=by
 let⟨i,O,r,j,_,k⟩:=ze3 I.hok e;have m:(fs.map (·.1)).length<=sizeLine:=by rw[length_map,Χ];lia
 refine znS I.kIn O c.sa c.po n.taker c.hd j m λp d t=>h _ ?_;have w:∃o,p.get? dx=Φ o:=let ⟨o,_,_,B,_⟩:=d.ns;⟨o,B⟩;refine I.write (by rw[e];exact True.intro) (.inr k) (λb q G z=>(t.2 b G).trans z) w ?_;refine⟨by rw[zaf O.ne];exact k,?_,O.ne,d.obj,_,d.ns,λg=>?_,λg J=>?_⟩
 have:=zdF f y fs;lia;rw[zdD];by_cases q:g=f;rw[if_pos q,if_pos q];exact l;rw[if_neg q,if_neg q];exact r g;by_cases q:g=f;rw[q];exact(zdI f y fs).1;refine(zdI f y fs).2 g (j g λz=>J ?_);show(if g=f then Φ u else i g)=Ψ;rw[if_neg q];exact z
def Inv.made(I:Inv X pins σ H s):Inv X pins σ (upd (upd H s.heap.objs.size (.own (s.heap.objs.size+1))) (s.heap.objs.size+1) (.ins C s.heap.objs.size []))
  {s with heap:=(s.heap.push emptyDict).push (instObj C s.heap.objs.size)}:=by
 have c:(s.heap.push emptyDict).get? s.heap.objs.size=Φ emptyDict:=Ι s.heap rfl;have g:((s.heap.push emptyDict).push (instObj C s.heap.objs.size)).get? (s.heap.objs.size+1)=Φ (instObj C s.heap.objs.size):=by
  have:=Ι (s.heap.push emptyDict) (o:=instObj C s.heap.objs.size) rfl
  rwa [ϔ]at this
 have e3:(s.heap.push emptyDict).Ns s.heap.objs.size (λ_=>Ψ):=⟨emptyDict,#[],_,c,rfl,(λe h=>absurd h (by simp)),λ_=>rfl⟩;have i:=I.laid (o:=.own (s.heap.objs.size+1)) (t':=s.toks) (λb u q=>Λ _ q) (le_refl _) ⟨_,c⟩;refine i.laid (λb u q=>Λ _ q) (le_of_eq (ϔ _ _)) ?_;have d:s.heap.objs.size≠s.heap.objs.size+1:=ne_of_lt (ϖ _);refine⟨by rw[zaf d,zag],zero_le _,d,g,λ_=>Ψ,(Heap.Ns1.of_empty e3).at λo q=>Λ _ q,λ_=>True.intro,λy j=>absurd rfl j⟩
def zk3(c:attributeBase e f env (eval e env)=eval e env)(h:wpAny (model prog w) A (eval e env) (λo b=>wpAny (model prog w) A (getAttr o f Γ) Q E b) E s):wpAny (model prog w) A (eval (.Attribute e f pos) env) Q E s:=
 Attribute_any_ h (by rw[arm_eval_Attribute,c])
end
abbrev tFld(K:PySem.W.Frag)(d:TE)(f:Str):TE:=λe H Q=>d e H λx b=>∃a C g c v,x=.ref a/\b a=Φ (.ins C g c)/\Cls K C/\NoAttr K C f/\c.lookup f=Φ v/\Q v b
abbrev sFld(K:PySem.W.Frag)(g h:TE)(f:Str):TS:=λD b H=>h b H λy i=>g b i λx d=>∃a C e c,x=.ref a/\d a=Φ (.ins C e c)/\Cls K C/\NoAttr K C f/\c.length<1000/\
 D.nx b (upd d a (.ins C e (putF f y c)))
section
variable{X:Cx}{o e value:Expr}{f:Str}{pos pos' tpos:Pos}{ta tv:TE}
def zrt(d:PE X e ta)(g:attributeBase e f X.env (eval e X.env)=eval e X.env):PE X (.Attribute e f pos) (tFld X.K ta f):=by intro b s i H Q I h;refine zk3 g (thn (d b s i H _ I h) λu y z=>?_);let⟨x,j,k,m,a,C,A,B,v,p,r,c,n,l,q⟩:=z;subst p;obtain rfl:u=Ξ.ref a:=m;exact ziA k r c n l λE G t w=>⟨v,j,t,w,q⟩
def zre(g:PE X o ta)(i:PE X value tv)(hs:swapsWith value (Φ (.Attribute o f pos')) pos.line X.env=pure Δ):PS X (.Assign [.Attribute o f pos'] value pos) (sFld X.K ta tv f):=by intro b s d H D I h;refine plainObj_wpAny_Assign_Attribute (thn (i b s d H _ I h) λu j z=>eY z λy k m p q=>thn (g b j d k _ m q) λr G z=>?_) hs;let⟨x,J,t,v,a,C,L,M,w,A,c,n,l,B⟩:=z;subst w;obtain rfl:r=Ξ.ref a:=v;exact zif t A c n l p λN E=>⟨d,_,E,B⟩
end
section
variable{X:Cx}{pins:List (Addr×Obj)}{σ:St}{H:Hp}{s:Ζ}{A:ϐ}{E:Ξ->Ζ->Prop}{Q:Ξ->Ζ->Prop}{c:Ξ}{b:Bool}
inductive TyOf(K:PySem.W.Frag)(H:Hp):V->Ξ->Prop where
 |non:TyOf K H .non (.type "NoneType")
 |bl (x:Bool):TyOf K H (.bl x) (.type "bool")
 |int (i:Int):TyOf K H (.int i) (.type "int")
 |str (x:Str):TyOf K H (.str x) (.type "str")
 |flt (x:UInt64):TyOf K H (.flt x) (.type "float")
 |lst {a:Addr} {xs:List V} (e:H a=Φ (.lst xs)):TyOf K H (.ref a) (.type "list")
 |frz {a:Addr} {o:Obj} {xs:List V} (e:H a=Φ (.frz o (.lst xs))):TyOf K H (.ref a) (.type "list")
 |tup {a:Addr} {xs:List V} (e:H a=Φ (.tup xs)):TyOf K H (.ref a) (.type "tuple")
 |dK {a:Addr} {kvs:List (Key×V)} (e:H a=Φ (.dK kvs)):TyOf K H (.ref a) (.type "dict")
 |dT {a:Addr} {kvs:List (List Key×V)} (e:H a=Φ (.dT kvs)):TyOf K H (.ref a) (.type "dict")
 |ins {a C dx:Addr} {fs:List (Str×V)} (e:H a=Φ (.ins C dx fs)) (cl:Cls K C) (ha:PySem.W.findIn K (.ref C) "__class__"=Φ (Φ (.builtin "object.__class__")))
  (hn:specialIn K (.builtin "object.__class__") "__get__"=Φ (Φ (.builtin "getset_descriptor.__get__"))) (htk:takesIn K (.builtin "object.__class__")=Φ Γ)
  (hm:PySem.W.mroIn K C (.type "object")=Φ Γ):TyOf K H (.ref a) (.ref C)
def zki(I:Inv X pins σ H s)(rx:RelV x u)(ty:TyOf X.K H x t)(e:kitOne X.K t c=Φ b)(h:∀tk,Q (.bool b) {s with toks:=tk}):
  wpAny (model X.prog X.w) A (call (.builtin "isinstance") [u,c]) Q E s:=by
 cases ty with|non=>cases(show u=Ξ.none from rx);exact kia_one PySem.W.kitx_none I.kIn True.intro e (λz=>by cases z) h|bl y=>cases(show u=Ξ.bool y from rx);exact kia_one PySem.W.kitx_bool I.kIn True.intro e (λz=>by cases z) h|int i=>let⟨t,q⟩:=(show ∃t,u=Ξ.int i t from rx);cases q;exact kia_one PySem.W.kitx_int I.kIn True.intro e (λz=>by cases z) h|str y=>let⟨t,q⟩:=(show ∃t,u=Ξ.str y t from rx);cases q;exact kia_one PySem.W.kitx_str I.kIn True.intro e (λz=>by cases z) h|flt y=>let⟨t,q⟩:=(show ∃t,u=Ξ.float y t from rx);cases q;exact kia_one PySem.W.kitx_float I.kIn True.intro e (λz=>by cases z) h| @lst a xs ea=>cases(show u=Ξ.ref a from rx);let⟨_,_,n,_,h1⟩:=(show ObjOk X.prog X.w H s.heap a (.lst xs) from I.hok a _ ea);exact kia_one kitx_list I.kIn ⟨_,h1,rfl⟩ e (λz=>by cases z) h| @frz a ob xs ea=>cases(show u=Ξ.ref a from rx);let⟨_,_,_,n,_,h1⟩:=(show ObjOk X.prog X.w H s.heap a (.frz ob (.lst xs)) from I.hok a _ ea);exact kia_one kitx_list I.kIn ⟨_,h1,rfl⟩ e (λz=>by cases z) h| @tup a xs ea=>cases(show u=Ξ.ref a from rx);let⟨_,_,_,p⟩:=(show ObjOk X.prog X.w H s.heap a (.tup xs) from I.hok a _ ea);let⟨o,h1,h2,_⟩:=p;exact kia_one PySem.W.kitx_tuple I.kIn ⟨o,h1,h2⟩ e (λz=>by cases z) h| @dK a kvs ea=>cases(show u=Ξ.ref a from rx);let⟨_,_,vs,_,p⟩:=(show ObjOk X.prog X.w H s.heap a (.dK kvs) from I.hok a _ ea);let⟨o,es,ep,h1,h2,_⟩:=p;exact kia_one kitx_dict I.kIn ⟨o,h1,h2.1⟩ e (λz=>by cases z) h| @dT a kvs ea=>cases(show u=Ξ.ref a from rx);let⟨_,_,xs,_,o,es,ep,h1,h2,_⟩:=(show ObjOk X.prog X.w H s.heap a (.dT kvs) from I.hok a _ ea);exact kia_one kitx_dict I.kIn ⟨o,h1,h2.1⟩ e (λz=>by cases z) h| @ins a C dx fs ea cl ha hn htk hm=>cases(show u=Ξ.ref a from rx);let⟨mA,O,_⟩:=ze3 I.hok ea;let⟨od,J,_⟩:=O.look;exact kia_one (PySem.W.kitx_own (cl.get _) cl.hd ha hn htk hm) I.kIn J e (λz=>by cases z) h
end
structure Room(k:Nat)(A:ϐ):Prop where
 hd:A.handled=Ψ
 dp:A.depth+3*k+5<recursionLimit
 un:A.units+16*k+200<cLine
def Room.mono(r:Room k A)(h:j<=k):Room j A:=⟨r.hd,by have:=r.dp;lia,by have:=r.un;lia⟩
def Room.deeper(r:Room (k+1) A)(env):Room k (A.deeper env):=⟨r.hd,by have:=r.dp;show A.depth+1+3*k+5<_;lia,by have:=r.un;show A.units+3+16*k+200<_;lia⟩
def Room.in1(r:Room (k+1) A):Room k A.in1:=⟨r.hd,by have:=r.dp;lia,by have:=r.un;lia⟩
def ziw{A:ϐ}:(A.under (.builtin "type.__call__" ⟨.ref C::us,a⟩)).depth=A.depth+1:=by first|rfl|simp[Code.weight]
def ziv{A:ϐ}:(A.under (.builtin "type.__call__" ⟨.ref C::us,a⟩)).units=A.units+1:=by first|rfl|simp[Code.cUnits]
def Room.make(r:Room (k+1) A)(C)(us)(a):Room k (A.under (.builtin "type.__call__" ⟨.ref C::us,a⟩)):=⟨r.hd,by have:=r.dp;rw[ziw];lia,by have:=r.un;rw[ziv];lia⟩
def Room.depth(r:Room k A):A.depth<recursionLimit:=by have:=r.dp;lia
abbrev tNil:TA:=λ_ H Q=>Q [] H
abbrev zgm(b:TE)(c:TA):TA:=λa H Q=>b a H λx d=>c a d λe f=>Q (x::e) f
section
variable{X:Cx}{e:Expr}{es:List Expr}{te:TE}{t:TA}{pos:Pos}
def zcs:PA X [] tNil:=λ_ _ _ _ H Q I h=>Calls.spliced_nil ⟨[],H,I,.nil,h⟩
def zaT(c:PE X e te)(d:PA X es t)(hs:starEach (e::es) X.env=(Δ,eval e X.env)::starEach es X.env:=by rfl):PA X (e::es) (zgm te t):=by intro pos a s b H Q I h;rw[hs];refine Calls.spliced_cons (thn (c a s b H _ I h) λu f z=>?_);let⟨x,g,i,j,l⟩:=z;exact thn (d pos a f b g _ i l) λr v k=>(by let⟨m,n,o,p,q⟩:=k;exact ⟨x::m,n,o,.cons j p,q⟩)
abbrev tTup(t:TA):TE:=λc H Q=>t c H λa b=>a.length<=sizeLine/\∀p,b p=Ψ->Q (.ref p) (upd b p (.tup a))
abbrev tLst(t:TA):TE:=λc H Q=>t c H λa b=>a.length<=sizeLine/\∀p,b p=Ψ->Q (.ref p) (upd b p (.lst a))
def zrk(h:PA X es t):PE X (.Tuple es m pos) (tTup t):=by intro a s g H Q I i;refine wpAny_Tuple_spliced (thn (h pos a s g H _ I i) λj c ⟨k,d,f,r,z,q⟩=>⟨by rw[<-r.length];exact z,?_⟩);have l:=f.hok.fresh (le_refl _);refine⟨.ref c.heap.objs.size,upd d c.heap.objs.size (.tup k),f.laid (λb u e=>Λ _ e) (le_refl _) ?_,rfl,q _ l⟩;exact⟨z,j,r,⟨_,Ι _ rfl,rfl,_,rfl⟩⟩
def zro(h:PA X es t):PE X (.List es pos) (tLst t):=by intro a s g H Q I i;refine wpAny_List_spliced (thn (h pos a s g H _ I i) λj c ⟨k,d,f,r,z,q⟩=>⟨by rw[<-r.length];exact z,?_⟩);have l:=f.hok.fresh (le_refl _);refine⟨.ref c.heap.objs.size,upd d c.heap.objs.size (.lst k),f.laid (λb u e=>Λ _ e) (le_refl _) ?_,rfl,q _ l⟩;exact⟨z,j,0,r,Ι _ rfl⟩
end
@[reducible]def Sp:=List V->Hp->VK->XK->Prop
@[reducible]def CXT:=List Env->Hp->Ζ->XK->Ξ->Ζ->Prop
structure Env0(P:Ο)(w:ϋ)(K:PySem.W.Frag)(mg:Str->Option Ξ)(base:Heap)(A:ϐ)(outer:List Env)(s:Ζ)(H:Hp):Prop where
 frames:A.frames=Φ outer
 mod:Mod K mg base
 bs:∀b o,base.get? b=Φ o->s.heap.get? b=Φ o/\H b=Ψ
 bsz:base.objs.size<=s.heap.objs.size
 funs:s.heap.FunFrames base outer
 frf:∀b∈frs outer,H b=Ψ
 hok:HOk P w H s.heap
 bare:AllBare s.gens
abbrev CE(outer:List Env)(P:Ο)(w:ϋ)(H:Hp)(s:Ζ)(Q:VK)(u:Ξ)(s':Ζ):Prop:=∃v a,s'.os=s.os/\AllBare s'.gens/\Un (frs outer) [] H a s.heap s'.heap/\HOk P w a s'.heap/\RelV v u/\Q v a
abbrev CR(CX:CXT)(outer:List Env)(P:Ο)(w:ϋ)(H:Hp)(s:Ζ)(Q:VK)(E:XK)(r:Result)(s':Ζ):Prop:=match r with|.ok (.ret u)=>CE outer P w H s Q u s'|.ok _=>False|.error e=>CX outer H s E e s'
structure FnOk(P:Ο)(w:ϋ)(K:PySem.W.Frag)(mg:Str->Option Ξ)(base:Heap)(CX:CXT)(k:Nat)(f:Addr)(fd:FuncData)(ps:List Str)(sp:Sp):Prop where
 len:∀vs H Q E,sp vs H Q E->vs.length=ps.length
 run:∀(A:ϐ)(outer:List Env)(s:Ζ)(H:Hp)(args:Args)(us:List Ξ)(vs:List V)(Q:VK)(E:XK),Room k A->Env0 P w K mg base A outer s H->BindsTo s fd args (ps.zip us)->Vals vs us->sp vs H Q E->
  codeAny (model P w) A (.call (.ref f) args) (CR CX outer P w H s Q E) s
def FnOk.mono{K}(F:FnOk P w K b base CX j f fd ps sp)(h:j<=k):
 FnOk P w K b base CX k f fd ps sp:=⟨F.len,λA a s H args c d Q E e=>F.run A a s H args c d Q E (e.mono h)⟩
def Env0.make{K}(e:Env0 P w K a base A outer s H)(C)(us)(b):
 Env0 P w K a base (A.under (.builtin "type.__call__" ⟨.ref C::us,b⟩)) outer s H:=⟨by first|exact e.frames|(simpa[ϐ.under,Code.envs,Code.isFrame,pushEnvs]using e.frames),e.mod,e.bs,e.bsz,e.funs,e.frf,e.hok,e.bare⟩
def Env0.in1{K}(e:Env0 P w K a base A outer s H):
 Env0 P w K a base A.in1 outer s H:=⟨e.frames,e.mod,e.bs,e.bsz,e.funs,e.frf,e.hok,e.bare⟩
section
variable{X:Cx}{pins:List (Addr×Obj)}{σ:St}{H:Hp}{s s':Ζ}
def Inv.env0(I:Inv X pins σ H s):Env0 X.prog X.w X.K X.mg X.base X.A X.stack s H:=⟨I.ok.frames,I.ok.mod,I.bs,le_trans I.ok.bsz I.sz,I.stack,I.stkFree,I.hok,I.bare⟩
def Inv.after(I:Inv X pins σ H s)(h:CE X.stack X.prog X.w H s Q u s'):EP X pins σ Q u s':=by let⟨v,f,os,a,i,c,r,q⟩:=h;let⟨j,g,d,t,e⟩:=s';obtain rfl:e=s.os:=os;exact⟨v,f,I.call i c a (λb z=>absurd z (by simp)),r,q⟩
end
abbrev zeH(sp:Sp)(a:List V)(E:XK)(t:TA):TE:=λb H Q=>t b H λc d=>sp (c++a) d Q E
abbrev znE(C:Addr)(sp:Sp)(b:List V)(E:XK)(t:TA):TE:=λd H Q=>t d H λe c=>∀x a,c x=Ψ->c a=Ψ->a≠x->
 sp (.ref x::(e++b)) (upd (upd c a (.own x)) x (.ins C a [])) (λv f=>v=.non/\Q (.ref x) f) E
abbrev Binds(K:PySem.W.Frag)(c:FuncData)(b:List Str)(ds:List Ξ):Prop:=∀(s:Ζ)(a:List Ξ),K.In s.heap->(a++ds).length=b.length->BindsTo s c ⟨a,[]⟩ (b.zip (a++ds))
def Binds.all{K}(h:∀us:List Ξ,us.length=ps.length->bindArgs fd ⟨us,[]⟩=pure (ps.zip us)):Binds K fd ps []:=λs us _ a=>by rw[Ϟ]at a⊢;exact .of_eq (h us a)
abbrev zdZ(CX:CXT)(X:Cx)(E:XK):Prop:=∀(a:List (Addr×Obj))(c:St)(H:Hp)(s:Ζ)(e:Ξ)(b:Ζ),Inv X a c H s->CX X.stack H s E e b->X.xe e b
section
variable{X:Cx}{CX:CXT}{k:Nat}{f C:Addr}{fd:FuncData}{ps:List Str}{sp:Sp}{dvs:List V}{ds:List Ξ}{E:XK}{x m:Str}{p pos apos:Pos}{e o:Expr}{es:List Expr}{ta:TE}{t:TA}
def zfs(F:FnOk X.prog X.w X.K X.mg X.base CX k f fd ps sp)(g:Room k X.A)(i:Binds X.K fd ps ds)(hd:Vals dvs ds)(j:zdZ CX X E)(I:Inv X a c H s)(r:Vals vs us)(h:sp (vs++dvs) H Q E):wpAny (model X.prog X.w) X.A (call (.ref f) us) (EP X a c Q) X.xe s:=by
 have d:=r.append hd;have l:(us++ds).length=ps.length:=by rw[<-d.length];exact F.len _ _ _ _ h
 refine ϟ (ϕ (F.run X.A X.stack s H ⟨us,[]⟩ (us++ds) (vs++dvs) Q E g I.env0 (i s us I.kIn l) d h) λr n b=>?_);cases r with|error e=>exact j a c H s e n I b| ok q=>cases q with|ret u=>exact I.after b|next=>exact False.elim b|brk=>exact False.elim b|cont=>exact False.elim b
def zoH(F:FnOk X.prog X.w X.K X.mg X.base CX k f fd ps sp)(g:Room k X.A)(i:Gl X x)(j:X.mg x=Φ (.ref f))(hk:keepIn X.K (.ref f)=Γ)(l:Binds X.K fd ps ds)(hd:Vals dvs ds)(n:zdZ CX X E)
  (u:PA X (e::es) t) (b:(x==("__debug__":Str))=Δ:=by decide) (v:starEach (e::es) X.env=(Δ,eval e X.env)::starEach es X.env:=by rfl) (c:(backTo pos (starEach es X.env)).any (·.1)=Δ:=by rfl) :
  PE X (.Call (.Name x p) (e::es) [] pos) (zeH sp dvs E t):=by
 intro a s w H Q I h;refine ώ (zbn I i j ?_ b);exact callWith_K (h₀:=X.base) I.ok.mod.kin hk (thn (u pos a s w H _ I h) λy A z=>eY z λB G d r q=>⟨d.kIn,(zfs F g l hd n d r q)⟩) v c
def zl1(F:FnOk X.prog X.w X.K X.mg X.base CX k f fd ps sp)(c:Room k X.A)(d:Gl X x)(g:X.mg x=Φ (.ref f))(hk:keepIn X.K (.ref f)=Γ)(i:Binds X.K fd ps ds)(hd:Vals dvs ds)(j:zdZ CX X E)
  (a:(x==("__debug__":Str))=Δ:=by decide):PE X (.Call (.Name x p) [] [] pos) (zeH sp dvs E tNil):=by
 intro b s l H Q I h;exact ώ (zbn I d g (callWith_K0 I.kIn hk (zfs (us:=[]) F c i hd j I .nil h)) a)
structure Mk(K:PySem.W.Frag)(C f:Addr):Prop where
 makes:makesIn K C=Γ
 init:PySem.W.findIn K (.ref C) "__init__"=Φ (Φ (.ref f))
 fn:isFn K (.ref f)=Γ
 kp:keepIn K (.ref C)=Γ
def zhd(M:Mk X.K C f)(F:FnOk X.prog X.w X.K X.mg X.base CX k f fd ps sp)(l:Room (k+1) X.A)(n:Binds X.K fd ps ds)(hd:Vals dvs ds)(q:zdZ CX X E)(I:Inv X b g H s)(r:Vals vs us)(h:∀x c,H x=Ψ->H c=Ψ->c≠x->sp (.ref x::(vs++dvs)) (upd (upd H c (.own x)) x (.ins C c [])) (λv w=>v=.non/\Q (.ref x) w) E):
  wpAny (model X.prog X.w) X.A (call (.ref C) us) (EP X b g Q) X.xe s:=by
 have i:=h (s.heap.objs.size+1) s.heap.objs.size (I.hok.fresh (le_succ _)) (I.hok.fresh (le_refl _)) (ne_of_lt (ϖ _));have d:=Inv.made (C:=C) I;have j:Vals (V.ref (s.heap.objs.size+1)::(vs++dvs)) (Ξ.ref (s.heap.objs.size+1)::(us++ds)):=.cons rfl (r.append hd);have y:(Ξ.ref (s.heap.objs.size+1)::us++ds).length=ps.length:=by have e:=j.length;rw[F.len _ _ _ _ i]at e;exact e.symm
 refine ϟ (zhz I.kIn M.makes M.init (beq_iff_eq.mp M.fn) (ϕ (F.run _ X.stack _ _ ⟨Ξ.ref (s.heap.objs.size+1)::us,[]⟩ (Ξ.ref (s.heap.objs.size+1)::(us++ds)) _ _ E (l.make C us [])
  (d.env0.make C us []) (n _ (Ξ.ref (s.heap.objs.size+1)::us) d.kIn y) j i) λr z a=>?_))
 cases r with|error e=>exact q b g _ _ e z d a| ok A=>cases A with| ret u=>let⟨v,B,G,J,L,N⟩:=d.after a;subst L;exact⟨J,⟨V.ref (s.heap.objs.size+1),B,G,rfl,N⟩⟩|next=>exact False.elim a|brk=>exact False.elim a|cont=>exact False.elim a
def zoD(M:Mk X.K C f)(F:FnOk X.prog X.w X.K X.mg X.base CX k f fd ps sp)(g:Room (k+1) X.A)(i:Gl X x)(j:X.mg x=Φ (.ref C))(l:Binds X.K fd ps ds)(hd:Vals dvs ds)(n:zdZ CX X E)
  (u:PA X (e::es) t) (b:(x==("__debug__":Str))=Δ:=by decide) (v:starEach (e::es) X.env=(Δ,eval e X.env)::starEach es X.env:=by rfl) (c:(backTo pos (starEach es X.env)).any (·.1)=Δ:=by rfl) :
  PE X (.Call (.Name x p) (e::es) [] pos) (znE C sp dvs E t):=by
 intro a s w H Q I h;refine ώ (zbn I i j ?_ b);exact callWith_K (h₀:=X.base) I.ok.mod.kin M.kp (thn (u pos a s w H _ I h) λy A z=>eY z λB G d r q=>⟨d.kIn,(zhd M F g l hd n d r q)⟩) v c
def zlT(M:Mk X.K C f)(F:FnOk X.prog X.w X.K X.mg X.base CX k f fd ps sp)(c:Room (k+1) X.A)(d:Gl X x)(g:X.mg x=Φ (.ref C))(i:Binds X.K fd ps ds)(hd:Vals dvs ds)(j:zdZ CX X E)
  (a:(x==("__debug__":Str))=Δ:=by decide):PE X (.Call (.Name x p) [] [] pos) (znE C sp dvs E tNil):=by
 intro b s l H Q I h;exact ώ (zbn I d g (callWith_K0 I.kIn M.kp (zhd (us:=[]) M F c i hd j I .nil h)) a)
end
abbrev PK(X:Cx)(b:List Keyword)(t:TA):Prop:=∀(pos:Pos)(a:List (Addr×Obj))(s:Ζ)(c:St)(H:Hp)(Q:List V->Hp->Prop),Inv X a c H s->t c H Q->wpAny (model X.prog X.w) X.A (evalAll ((backToKw pos (keywordEach b X.env)).map (·.2))) (AP X a c Q) X.xe s
section
variable{X:Cx}{CX:CXT}{k:Nat}{f C:Addr}{fd:FuncData}{ps ks:List Str}{sp:Sp}{E:XK}{x m:Str}{p pos apos kpos:Pos}{e o:Expr}{es:List Expr}{kws:List Keyword}{te ta:TE}{t tk:TA}{nm:Option Str}
def zrg:PK X [] tNil:=λ_ _ _ _ H Q I h=>wpAny_evalAll_nil ⟨[],H,I,.nil,h⟩
def zoz(c:PE X e te)(d:PK X kws t):PK X (⟨nm,e,kpos⟩::kws) (zgm te t):=by intro pos a s b H Q I h;refine wpAny_evalAll_cons (Θ (thn (c a s b H _ I h) λu g z=>eY z λx i j l n=>Θ (wpAny_standAt (Ω ?_))));exact thn (d pos a g b i _ j n) λB G z=>(by let⟨q,r,w,y,A⟩:=z;exact ⟨x::q,r,w,.cons l y,A⟩)
structure KBinds(K:PySem.W.Frag)(fd:FuncData)(ps ks:List Str)(g:List Ξ->List Ξ->List Ξ)(gV:List V->List V->List V):Prop where
 to:∀(s:Ζ)(us ws:List Ξ),K.In s.heap->(g us ws).length=ps.length->BindsTo s fd ⟨us,ks.zip ws⟩ (ps.zip (g us ws))
 rel:∀{vs:List V}{us:List Ξ}{zs:List V}{ws:List Ξ},Vals vs us->Vals zs ws->Vals (gV vs zs) (g us ws)
end
structure FnScope(N P:List Str)(sc:Scope):Prop where
 kind:sc.kind=.function
 co:sc.isCoroutine=Δ
 gen:sc.isGenerator=Δ
 nd:N.Nodup
 pre:N.take P.length=P
 par:∀x∈P,sc.names.lookup x=Φ .local\/sc.names.lookup x=Φ .cell
 nofree:∀y∈sc.names,y.2≠.free
def zgd{kindOf}:∀{a:List (Str×Ξ)}{m:Str->Option Ξ},(∀v,(x,v)∉a)->bindL kindOf a m x=m x
 | [],_,_=>rfl| (n,v)::r,m,h=>by
  unfold bindL;rw[zgd λw b=>h w (Μ _ b)];split;have:x≠n:=by rintro rfl;exact h v Ν
  simp[this];rfl
def zgf{kindOf}:∀{a:List (Str×Ξ)}{m:Str->Option Ξ},(∀v,(x,v)∉a)->bindC kindOf a m x=m x
 | [],_,_=>rfl| (n,v)::r,m,h=>by
  unfold bindC;rw[zgf λw b=>h w (Μ _ b)];split;rfl;have:x≠n:=by rintro rfl;exact h v Ν
  simp[this]
def zge{kindOf}:∀{P:List Str}{vs:List Ξ}{i:Nat}{m:Str->Option Ξ},P.Nodup->P[i]?=Φ x->vs[i]?=Φ v->kindOf x=Φ .local->
  bindL kindOf (P.zip vs) m x=Φ v
 | [],_,_,_,_,h,_,_=>by simp at h|_::_,[],_,_,_,_,h,_=>by simp at h| p::P,w::vs,0,m,c,a,b,d=>by simp at a b;subst a;subst b;show bindL kindOf ((p,w)::P.zip vs) m p=_;unfold bindL;rw[zgd λv e=>(nodup_cons.mp c).1 (of_mem_zip e).1,if_pos d];simp| p::P,w::vs,i+1,m,c,a,b,d=>by unfold bindL;exact zge (i:=i) (nodup_cons.mp c).2 (by simpa using a) (by simpa using b) d
def zgg{kindOf}:∀{P:List Str}{vs:List Ξ}{i:Nat}{m:Str->Option Ξ},P.Nodup->P[i]?=Φ x->vs[i]?=Φ v->kindOf x≠Φ .local->
  bindC kindOf (P.zip vs) m x=Φ v
 | [],_,_,_,_,h,_,_=>by simp at h|_::_,[],_,_,_,_,h,_=>by simp at h| p::P,w::vs,0,m,c,a,b,d=>by simp at a b;subst a;subst b;show bindC kindOf ((p,w)::P.zip vs) m p=_;unfold bindC;rw[zgf λv e=>(nodup_cons.mp c).1 (of_mem_zip e).1,if_neg d];simp| p::P,w::vs,i+1,m,c,a,b,d=>by unfold bindC;exact zgg (i:=i) (nodup_cons.mp c).2 (by simpa using a) (by simpa using b) d
abbrev start(N:List Str)(vs:List V):St:=vs.map Φ++List.replicate (N.length-vs.length) Ψ
abbrev cxOf(CX:CXT)(P:Ο)(w:ϋ)(K:PySem.W.Frag)(mg:Str->Option Ξ)(base:Heap)(N:List Str)(a:Str)(scope:Scope)(f:Addr)(c:Ξ)(A:ϐ)(outer:List Env)(s:Ζ)(H:Hp)(E:XK):Cx where
 prog:=P
 w:=w
 K:=K
 mg:=mg
 base:=base
 A:=A.deeper (envOfC a scope s.heap.objs.size f c)
 N:=N
 s₀:=s
 H₀:=H
 env:=envOfC a scope s.heap.objs.size f c
 outer:=outer
 stack:=envOfC a scope s.heap.objs.size f c::outer
 ex:=[]
 calm:=Γ
 fn:=λ_=>Γ
 pn:=[]
 xe:=λe d=>wpAny (model P w) (A.deeper (envOfC a scope s.heap.objs.size f c)) (leaving (envOfC a scope s.heap.objs.size f c) e) (λ_ b=>CX outer H s E e b) (λg b=>CX outer H s E g b) d
def zh0{a:Scope}(h:a.names.lookup x=Φ .cell):∃c,(cellsFrom n a.names []).lookup x=Φ c:=by have q:=cellsFrom_some a.names n [] (.inl h);exact Option.isSome_iff_exists.mp q
def zfQ{K}(S:FnScope N o scope)(hd:A.handled=Ψ)(j:Env0 P w K J base A outer s H)(Y:vs.length=o.length)(r:Vals vs us)(x:InCallC s s.heap.objs.size (bindL (envOfC g scope s.heap.objs.size f I).kindOf (o.zip us) λ_=>Ψ) (cellsFrom (s.heap.objs.size+1) scope.names []) (bindC (envOfC g scope s.heap.objs.size f I).kindOf (o.zip us) λ_=>Ψ) O):
  Inv (cxOf CX P w K J base N g scope f I A outer s H E) [] (start N vs) H O:=by
 have Q:o.length<=N.length:=by have:=congrArg List.length S.pre;rw[List.length_take]at this;lia
 let⟨C,tk,rfl,L⟩:=x.done;have l:∀b:Addr,b∉(cxOf CX P w K J base N g scope f I A outer s H E).ex:=λb z=>absurd (show b∈([]:List Addr) from z) (by simp);refine⟨⟨j.mod,S.kind,rfl,rfl,le_refl _,λy z c C d=>?_,λy m=>?_,λy c _ h=>?_,λ_=>hd,ϐ.frames_deeper j.frames,.inr ⟨rfl,rfl⟩,λb z=>absurd z (l b),j.bs,j.bsz,λb _ _=>l b,λb z=>absurd z (l b),j.funs,j.frf⟩,
  rfl,j.bare,Un.kept L,⟨_,x.toInCall.ns,λi y v C d h3=>?_⟩,λy c h=>⟨_,x.cell y c h⟩,j.hok.fresh (le_refl _),λy c h=>?_,λp t=>absurd (show p∈([]:List (Addr×Obj)) from t) (by simp),j.hok.kept L,?_⟩
 exact name_of_addr x.apart (PySem.mem_of_lookup C) (PySem.mem_of_lookup d);rcases m with m|m;exact zh0 m;exact absurd rfl (S.nofree _ (PySem.mem_of_lookup m));exact le_of_lt (x.above y c (PySem.mem_of_lookup h));have G:i<vs.length:=by
  unfold start at d;by_cases G:i<vs.length;exact G
  . rw[getElem?_append_right (by simpa using G)]at d;rw[List.getElem?_replicate]at d;split at d<;>cases d
 have T:vs[i]?=Φ v:=by
  unfold start at d;rw[getElem?_append_left (by simpa using G),getElem?_map]at d;cases e:vs[i]? with
  |none=>rw[e]at d;exact nS d
  |some a=>rw[e]at d;cases d;rfl
 let⟨u,M,U⟩:=r.get T;have t:o[i]?=Φ y:=by rw[<-S.pre,List.getElem?_take_of_lt (by lia)];exact C
 have B:o.Nodup:=by rw[<-S.pre];exact S.nd.sublist (List.take_sublist _ _)
 refine⟨u,U,?_⟩;rcases S.par y (mem_of_getElem? t) with k|k;exact .inl ⟨k,zge B t M k⟩;let⟨c,e⟩:=zh0 k;refine .inr ⟨.inl k,c,e,?_⟩;have q:=x.cell y c e;rw[zgg B t M (by show scope.names.lookup y≠_;rw[k];decide)]at q;exact q;exact j.hok.fresh (le_of_lt (x.above y c (PySem.mem_of_lookup h)));unfold start;show _=N.length;rw[length_append,length_map,length_replicate];lia
def zpm{K}{U kV m Y c ct oc}(lk:K.lookup f=Φ ⟨oc,od,.func (fnOf name a d h scope U kV m Y an c ct),osl⟩)(B:codeIn K c a=Γ)(S:FnScope N C scope)(len:∀vs H Q E,sp vs H Q E->vs.length=C.length)(i:∀(A:ϐ)(outer:List Env)(s:Ζ)(H:Hp)(vs:List V)(Q:VK)(E:XK),Room k (A.deeper (envOfC a scope s.heap.objs.size f c))->sp vs H Q E->
   ∃t,PSs (cxOf CX P w K G base N a scope f c A outer s H E) h t/\t {nx:=λ_ H'=>Q .non H',rt:=Q} (start N vs) H):
  FnOk P w K G base CX (k+1) f (fnOf name a d h scope U kV m Y an c ct) C sp:=by
 refine⟨len,λA outer s H args us vs Q E L p hb r z=>?_⟩;have hl:=len _ _ _ _ z;have KX:=p.mod.kin.keeps λb o e=>(p.bs b o e).1;have M:=p.mod.nolimit.keeps λb o e=>(p.bs b o e).1;have j:∀y∈C.zip us,scope.names.lookup y.1=Φ .local\/(scope.names.lookup y.1=Φ .cell/\((cellsFrom (s.heap.objs.size+1) scope.names []).lookup y.1).isSome=Γ):=λ⟨n,v⟩ hy=>by rcases S.par n (of_mem_zip hy).1 with q|q;exact .inl q;exact .inr ⟨q,cellsFrom_some _ _ _ (.inl q)⟩
 refine codeAny_call_function L.depth (KX _ _ lk) rfl S.co S.gen rfl (PySem.W.codeRec_of KX B) (hb _ _ _ _ ?_);refine wpAny_newFunctionEnv_cells S.kind j λenv he s1 x=>?_;subst he;refine⟨M.keeps x.toInCall.keep,codeAny_func ?_⟩;let⟨t,ht,hq⟩:=i A outer s H vs Q E (L.deeper _) z;have I:Inv (cxOf CX P w K G base N a scope f c A outer s H E) [] (start N vs) H s1:=zfQ S L.hd p hl r x;refine Τ (ht [] s1 (start N vs) H _ I hq) (λfl O l=>?_) λe O l=>l;have fin:∀{g:St}{H':Hp}{v:V}{u:Ξ},Inv (cxOf CX P w K G base N a scope f c A outer s H E) [] g H' O->RelV v u->Q v H'->CE outer P w H s Q u O:=λ{g H' v u} J T q=>⟨v,H',J.os,J.bare,J.base,J.hok,T,q⟩;cases fl with| ret u=>let⟨v,g,H',J,T,q⟩:=l;exact fin J T q| next=>let⟨g,H',J,q⟩:=l;exact fin (v:=V.non) J rfl q| brk=>let⟨_,_,_,q⟩:=l;exact False.elim q| cont=>let⟨_,_,_,q⟩:=l;exact False.elim q
section
variable{X:Cx}{x:Str}{p pos:Pos}{e:Expr}{es:List Expr}{t:TA}{id T:String}{r:List V->Hp->VK->Prop}
abbrev tCB(r:List V->Hp->VK->Prop)(t:TA):TE:=λa H Q=>t a H λb c=>r b c Q
def zbl(f:zbi X (.builtin id) r)(g:Gl X x)(i:X.mg x=Ψ)(j:bootBuiltins x=Φ (.builtin id))(k:PA X (e::es) t)(l:x≠"__name__":=by decide)(b:(x==("__debug__":Str))=Δ:=by decide)
  (m:starEach (e::es) X.env=(Δ,eval e X.env)::starEach es X.env:=by rfl) (c:(backTo pos (starEach es X.env)).any (·.1)=Δ:=by rfl):PE X (.Call (.Name x p) (e::es) [] pos) (tCB r t):=by
 intro a s d H Q I h;refine ώ (zdG I g i j ?_ l b);exact PyProof.Rows.callWith_builtin1 (thn (k pos a s d H _ I h) λn o z=>(by let⟨q,u,v,w,y⟩:=z;exact f a o d u q n Q v w y)) m c
def zbg(f:zbi X (.type T) r)(g:Gl X x)(i:X.mg x=Ψ)(j:bootBuiltins x=Φ (.type T))(k:PA X (e::es) t)(l:x≠"__name__":=by decide)(b:(x==("__debug__":Str))=Δ:=by decide)
  (m:starEach (e::es) X.env=(Δ,eval e X.env)::starEach es X.env:=by rfl) (c:(backTo pos (starEach es X.env)).any (·.1)=Δ:=by rfl):PE X (.Call (.Name x p) (e::es) [] pos) (tCB r t):=by
 intro a s d H Q I h;refine ώ (zdG I g i j ?_ l b);exact PyProof.Rows.callWith_type1 (thn (k pos a s d H _ I h) λn o z=>(by let⟨q,u,v,w,y⟩:=z;exact f a o d u q n Q v w y)) m c
end
section
variable{κ:Type}[DecidableEq κ]
abbrev valV(a:List (κ×V))(k:κ):Option V:=(a.find? λb=>decide (b.1=k)).map (·.2)
abbrev putK(a:List (κ×V))(k:κ)(v:V):List (κ×V):=if(a.any λb=>decide (b.1=k))=Γ then a.map (λb=>if b.1=k then(b.1,v) else b) else a++[(k,v)]
def zeC{k:κ}(e:p.1=k):valV (p::r) k=Φ p.2:=by simp[valV,e]
def zeD{k:κ}(e:¬p.1=k):valV (p::r) k=valV r k:=by simp[valV,e]
def zg6(k):∀a:List (κ×V),(a.any λb=>decide (b.1=k))=(valV a k).isSome
 | []=>rfl| p::r=>by rw[any_cons];by_cases e:p.1=k;simp![zeC e,decide_eq_true e,Bool.true_or,Option.isSome_some];rw[zeD e,decide_eq_false e];exact zg6 k r
def zby(kvs)(k:κ)(v):(putK kvs k v).length<=kvs.length+1:=by unfold putK;split;rw[length_map];lia;rw[length_append,ϊ,length_nil];lia
def RelO.isSome_eq(r:RelO o u):o.isSome=u.isSome:=by
 cases o with
 |none=>cases u with
  |none=>rfl|some _=>exact(show False from r).elim
 |some _=>cases u with|none=>exact(show False from r).elim|some _=>rfl
def RelO.getD(r:RelO o u)(a:RelV d d'):RelV (o.getD d) (u.getD d'):=by
 cases o with
 |none=>cases u with
  |none=>exact a|some _=>exact(show False from r).elim
 |some _=>cases u with|none=>exact(show False from r).elim|some _=>exact r
def KV.val(r:KV a vs)(k:κ):RelO (valV a k) (valueAt vs k):=by
 induction r with
 |nil=>exact True.intro| @cons p q j c h t g=>
  let⟨f,i⟩:=h;by_cases e:p.1=k;have d:=f.symm.trans e;have b:valueAt (q::c) k=Φ q.2:=by simp[valueAt,d]
  rw[zeC e,b];exact i;have d:¬q.1=k:=λz=>e (f.trans z);have b:valueAt (q::c) k=valueAt c k:=by simp[valueAt,d]
  rw[zeD e,b];exact g
def KV.any(r:KV kvs vs)(k:κ):(kvs.any λa=>decide (a.1=k))=vs.any λa=>decide (a.1=k):=by induction r with|nil=>rfl|cons h t b=>rw[any_cons,any_cons,b,h.1]
def KV.repl(r:KV kvs vs)(k:κ)(c:RelV y u):
  KV (kvs.map λa=>if a.1=k then(a.1,y) else a) (vs.map λa=>if a.1=k then(a.1,u) else a):=by
 induction r with|nil=>exact .nil| @cons p q g i h t d=>rw[Υ,Υ];refine .cons ?_ d;let⟨b,f⟩:=h;by_cases e:p.1=k;rw[if_pos e,if_pos (b.symm.trans e)];exact⟨b,c⟩;rw[if_neg e,if_neg (λz=>e (b.trans z))];exact⟨b,f⟩
def KV.put(r:KV kvs vs)(k:κ)(a:RelV y u):KV (putK kvs k y) (stored vs k u):=by unfold putK stored;rw[r.any k];by_cases e:(vs.any λb=>decide (b.1=k))=Γ;rw[if_pos e,if_pos e];exact r.repl k a;rw[if_neg e,if_neg e];exact Paired.snoc r ⟨rfl,a⟩
def KV.length{vs:List (κ×Ξ)}(r:KV kvs vs):kvs.length=vs.length:=Paired.length r
end
def zkf(r:RelV (kV k) u):(zat P w).is k u=Γ:=by cases k with|inl i=>let⟨t,e⟩:=(show ∃t,u=Ξ.int i t from r);subst e;exact zgG P w i t|inr x=>let⟨t,e⟩:=(show ∃t,u=Ξ.str x t from r);subst e;exact zgF P w x t
def zfO:∀{ks:List Key}{us:List Ξ},Vals (ks.map kV) us->ItemsAre (zat P w) ks us
 | [],_,r=>by cases r;exact .nil| k::ks,_,r=>by cases r with|cons h t=>exact .cons (zkf h) (zfO t)
@[reducible]def KT(H:Hp):List (List Key×V)->List (List Key×Addr×Ξ)->Prop:=Paired λp q=>p.1=q.1/\H q.2.1=Φ (.tup (p.1.map kV))/\RelV p.2 q.2.2
def KT.val(r:KT H a xs)(k):RelO (valV a k) ((atKey xs k).map (·.2)):=by
 induction r with
 |nil=>exact True.intro| @cons p q j c h t g=>
  let⟨f,_,i⟩:=h;by_cases e:p.1=k;have d:=f.symm.trans e;have b:atKey (q::c) k=Φ q.2:=by simp[atKey,d]
  rw[zeC e,b];exact i;have d:¬q.1=k:=λz=>e (f.trans z);have b:atKey (q::c) k=atKey c k:=by simp[atKey,d]
  rw[zeD e,b];exact g
def KT.repl(r:KT H kvs xs)(k)(d:RelV y u):
  KT H (kvs.map λb=>if b.1=k then(b.1,y) else b) (xs.map (putAt k u)):=by
 induction r with|nil=>exact .nil| @cons p q i j h t f=>rw[Υ];refine .cons ?_ f;let⟨a,c,g⟩:=h;unfold putAt;by_cases e:p.1=k;rw[if_pos e,if_pos (a.symm.trans e)];exact⟨a,c,d⟩;rw[if_neg e,if_neg (λz=>e (a.trans z))];exact⟨a,c,g⟩
def KT.put(r:KT H a xs)(k)(d:H b=Φ (.tup (k.map kV)))(c:RelV y u):
  KT H (putK a k y) (storedH xs k b u):=by
 have e:(a.any λf=>decide (f.1=k))=(atKey xs k).isSome:=by rw[zg6,(r.val k).isSome_eq,Option.isSome_map]
 unfold putK storedH;rw[e];by_cases q:(atKey xs k).isSome=Γ;rw[if_pos q,if_pos q];exact r.repl k c;rw[if_neg q,if_neg q];exact Paired.snoc r ⟨rfl,d,c⟩
def KT.keeps(r:KT H kvs xs)(a:∀b ys,H b=Φ (.tup ys)->H' b=Φ (.tup ys)):KT H' kvs xs:=Paired.mapP r λ_ _ z=>⟨z.1,a _ _ z.2.1,z.2.2⟩
section
variable{P:Ο}{w:ϋ}{H:Hp}{h:Heap}{a:Addr}
def zq5(ok:HOk P w H h)(e:Rd H a u):ObjOk P w H h a u:=e.ok ok
def zmv(ok:HOk P w H h)(e:Rd H a (.dK kvs)):kvs.length<=sizeLine/\(a==sysModules)=Δ/\∃vs,KV kvs vs/\h.DictOf (zat P w) a vs:=show ObjOk P w H h a (.dK kvs) from zq5 ok e
def zmw(ok:HOk P w H h)(e:H a=Φ (.dK kvs)):kvs.length<=sizeLine/\(a==sysModules)=Δ/\∃vs,KV kvs vs/\h.DictOf (zat P w) a vs:=zmv ok (.inl e)
def zhE(ok:HOk P w H h)(e:H a=Φ (.tup (ks.map kV))):(tupleKind (zat P w)).is h ks a:=by let⟨_,b,r,o,c,d,n,f⟩:=(show ObjOk P w H h a (.tup (ks.map kV)) from ok a _ e);exact⟨o,b.toArray,n,c,d,f,by simpa using zfO r⟩
def zpu(ok:HOk P w H h)(e:Rd H a (.dT kvs)):kvs.length<=sizeLine/\(a==sysModules)=Δ/\
  ∃xs,KT H kvs xs/\h.DictOfH (tupleKind (zat P w)) a xs:=by
 let⟨z,y,xs,r,o,f,g,i,j,k,n,s⟩:=(show ObjOk P w H h a (.dT kvs) from zq5 ok e);refine⟨z,y,xs,r,o,f,g,i,j,k,n,λx b=>?_,s⟩;have c:∀{l:List (List Key×V)}{m:List (List Key×Addr×Ξ)},KT H l m->∀x∈m,(tupleKind (zat P w)).is h x.1 x.2.1:=by
  intro l m q;induction q with
  |nil=>intro x b;exact by cases b
  | @cons p q v A d t u=>intro x b;rcases mem_cons.mp b with e|b;subst e;exact zhE ok (by rw[<-d.1];exact d.2.1);exact u x b
 exact c r x b
def zuc(ok:HOk P w H h)(e:H a=Φ (.dT kvs)):kvs.length<=sizeLine/\(a==sysModules)=Δ/\
 ∃xs,KT H kvs xs/\h.DictOfH (tupleKind (zat P w)) a xs:=zpu ok (.inl e)
end
abbrev DGet(H:Hp)(a:Addr)(y:V)(r:Option V):Prop:=(∃c k,Rd H a (.dK c)/\y=kV k/\r=valV c k)\/∃c k b,Rd H a (.dT c)/\y=.ref b/\H b=Φ (.tup (k.map kV))/\r=valV c k
abbrev DPut(H:Hp)(a:Addr)(y v:V)(H':Hp):Prop:=
 (∃c k,H a=Φ (.dK c)/\y=kV k/\c.length<sizeLine/\H'=upd H a (.dK (putK c k v)))\/
 ∃c k b,H a=Φ (.dT c)/\y=.ref b/\H b=Φ (.tup (k.map kV))/\c.length<sizeLine/\H'=upd H a (.dT (putK c k v))
def DGet.k{k}(e:H a=Φ (.dK kvs)):DGet H a (kV k) (valV kvs k):=.inl ⟨kvs,k,.inl e,rfl,rfl⟩
def DPut.k{k}(e:H a=Φ (.dK kvs))(b:kvs.length<sizeLine):DPut H a (kV k) v (upd H a (.dK (putK kvs k v))):=.inl ⟨kvs,k,e,rfl,b,rfl⟩
section
variable{X:Cx}{pins:List (Addr×Obj)}{σ:St}{H:Hp}{s:Ζ}{a:Addr}{y v:V}{u r:Ξ}{o:Option V}{A:ϐ}{E:Ξ->Ζ->Prop}
def Inv.big(I:Inv X pins σ H s):sysModules<s.heap.objs.size:=by have h:=(I.mod.glob.keeps I.bk).lt;exact lt_trans (by decide) h
def ze7(I:Inv X pins σ H s)(d:Mut (H a))(hs:Heap.SameBut a s.heap h')(f:∃q,h'.get? a=Φ q)(new:ObjOk X.prog X.w (upd H a c) h' a c):
  Inv X pins σ (upd H a c) {s with heap:=h',toks:=t'}:=
 I.write d (.inl rfl) (λb q g z=>(hs.2 b g).trans z) f new
def zkM(z:kvs.length<=sizeLine)(hd:(a==sysModules)=Δ)(b:KV kvs vs)(c:h'.DictOf (zat P w) a vs):
 ObjOk P w H' h' a (.dK kvs):=⟨z,hd,vs,b,c⟩
def zkS(N:A.units+1<cLine)(I:Inv X pins σ H s)(g:DPut H a y v H')(C:RelV y u)(G:RelV v r)(h:∀s',Inv X pins σ H' s'->Q () s'):
  wpAny (model X.prog X.w) A (setItem (.ref a) u r) Q E s:=by
 rcases g with⟨d,k,e,m,l,n⟩|⟨d,k,b,e,m,J,l,n⟩
 . subst m n;let⟨z,p,O,f,t⟩:=zmw I.hok e;have w:O.length<=sizeLine:=by rw[<-f.length];exact z
   have x:(putK d k v).length<=sizeLine:=by have:=zby d k v;lia
   refine wpAny_setItem_pairs (zkf C) t λL i B=>h _ ?_;have T:∃q,L.get? a=Φ q:=let ⟨q,_,_,j,_⟩:=i;⟨q,j⟩;exact ze7 I (by rw[e];exact True.intro) B T (zkM x p (f.put k G) i)
 subst m n;cases(show u=Ξ.ref b from C);let⟨z,p,U,f,t⟩:=zuc I.hok e;have w:U.length<=sizeLine:=by rw[<-Paired.length f];exact z
 have x:(putK d k v).length<=sizeLine:=by have:=zby d k v;lia
 refine wpAny_setItem_heap (tupleKind_room_in1 N) (zhE I.hok J) t λL i B=>h _ ?_;let⟨q,Y,ep,j,h2,h3,h4,_,h5⟩:=i;refine ze7 I (by rw[e];exact True.intro) B ⟨q,j⟩ ⟨x,p,_,(f.put k J G).keeps λc ys M=>?_,q,Y,ep,j,h2,h3,h4,h5⟩;rw[zaf (ne_of M e (λz=>by cases z))];exact M
end
section
variable{X:Cx}{pins:List (Addr×Obj)}{σ:St}{H:Hp}{s:Ζ}{a:Addr}{kvs:List (Key×V)}{k:Key}{u:Ξ}{A:ϐ}{E:Ξ->Ζ->Prop}
def zud(I:Inv X pins σ H s)(e:Rd H a (.dK kvs))(h:∀t s',Inv X pins σ H s'->Q (.int kvs.length t) s'):wpAny (model X.prog X.w) A (call (.builtin "len") [.ref a]) Q E s:=by let⟨z,c,f,b,d⟩:=zmv I.hok e;refine call_len_dict c d (by rw[<-b.length];rw[Χ]at z;lia) ?_;rw[<-b.length];exact h _ _ (I.tok _)
end
def zhV(h:Heap)(a:sysModules<h.objs.size):ObjOk P w H (h.push {cls:=.type "dict",data:=.dict #[]}) h.objs.size (.dK []):=⟨zero_le _,beq_eq_false_iff_ne.mpr (Ne.symm (ne_of_lt a)),[],.nil,Heap.DictOf.new h⟩
abbrev zqo:TE:=λ_ H Q=>∀p,H p=Ψ->Q (.ref p) (upd H p (.dK []))
section
variable{X:Cx}{pos:Pos}
def zlW:PE X (.Dict [] [] pos) zqo:=λb s c H Q I h=>wpAny_Dict_empty ⟨.ref s.heap.objs.size,_,I.laid (λ_ _ q=>Λ _ q) (le_refl _) (zhV s.heap I.big),rfl,h _ (I.hok.fresh (le_refl _))⟩
end
abbrev zi5:List (TE×TE)->St->Hp->(List (V×V)->Hp->Prop)->Prop
 | [],_,H,Q=>Q [] H|(b,c)::r,a,H,Q=>b a H λx d=>c a d λy e=>zi5 r a e λf g=>Q ((x,y)::f) g
@[reducible]def VV:List (V×V)->List (Ξ×Ξ)->Prop:=Paired λp q=>RelV p.1 q.1/\RelV p.2 q.2
abbrev PPs(X:Cx)(pos:Pos)(c:List (Option Expr))(a:List Expr)(d:List (TE×TE)):Prop:=
 ∀(b:List (Addr×Obj))(s:Ζ)(e:St)(H:Hp)(Q:List (V×V)->Hp->Prop),Inv X b e H s->zi5 d e H Q->
  wpAny (model X.prog X.w) X.A (evalPairs (pairTrees c a X.env pos)) (λh i=>∃f g,Inv X b e g i/\VV f h/\Q f g) X.xe s
def zoy:PPs X pos [] [] []:=λa s b H Q I h=>pairTrees_nil_walk ⟨[],H,I,.nil,h⟩
def zlL(hk:PE X k e)(f:PE X v g)(i:PPs X pos ks vs b):
  PPs X pos (Φ k::ks) (v::vs) ((e,g)::b):=λa s c H Q I h=>
 pairTrees_cons_walk (thn (hk a s c H _ I h) λu l p=>(by let⟨x,m,n,o,q⟩:=p;exact thn (f a l c m _ n q) λL r j=>(by let⟨y,t,w,A,B⟩:=j;exact thn (i a r c t _ w B) λM N z=>(by let⟨C,E,G,d,J⟩:=z;exact ⟨(x,y)::C,E,G,.cons ⟨o,A⟩ d,J⟩))))
abbrev zcZ(b a:List (Key×V)):List (Key×V):=a.foldl (λc d=>putK c d.1 d.2) b
def KV.merge:∀{a:List (Key×V)}{c:List (Key×Ξ)}{b:List (Key×V)}{vs:List (Key×Ξ)},KV a c->KV b vs->KV (zcZ b a) (merged vs c):=by
 intro a c b vs r;induction r generalizing b vs with
 |nil=>intro q;exact q| @cons p q g i h t d=>
  intro f;have e:KV (putK b p.1 p.2) (stored vs q.1 q.2):=by have:=f.put p.1 h.2;rw[<-h.1];exact this
  exact d e
def zcw:∀(b a:List (Key×V)),(zcZ a b).length<=a.length+b.length
 | [],a=>by show a.length<=a.length+0;lia| p::r,a=>by have c:=zcw r (putK a p.1 p.2);have d:=zby a p.1 p.2;show(zcZ (putK a p.1 p.2) r).length<=_;rw[ϊ];lia
def zey:∀{d:List (Key×V)}{ws:List (Ξ×Ξ)},VV (d.map λf=>(kV f.1,f.2)) ws->∃e,Carries (zat P w) ws e/\KV d e
 | [],_,r=>by cases r;exact⟨[],True.intro,.nil⟩| p::d,_,r=>by cases r with| @cons a b i j h t=>let⟨e,c,q⟩:=zey t;let⟨k,g⟩:=b;exact⟨(p.1,g)::e,⟨zkf h.1,rfl,c⟩,.cons ⟨rfl,h.2⟩ q⟩
abbrev zte(b:List (TE×TE)):TE:=λe H Q=>∀p,H p=Ψ->zi5 b e (upd H p (.dK [])) λf c=>c p=Φ (.dK [])/\∃a:List (Key×V),f=a.map (λd=>(kV d.1,d.2))/\a.length<=15/\Q (.ref p) (upd c p (.dK (zcZ [] a)))
def zoF(h:PPs X pos b d l)(f:b.all (·.isSome)=Γ)(r:b.length=d.length)(h0:b≠[])(m:b.length<=15):PE X (.Dict b d pos) (zte l):=by
 intro g s t H Q I q;have u:=I.hok.fresh (le_refl s.heap.objs.size);have v:=I.laid (t':=s.toks) (λ_ _ q=>Λ _ q) (le_refl _) (zhV s.heap I.big);refine wpAny_Dict_walk (knd:=zat X.prog X.w) f r h0 m (thn (h g _ t _ _ v (q _ u)) λU Y k=>?_);let⟨ps,H2,p,n,e,i,x,lk,y⟩:=k;subst x;let⟨A,c,B⟩:=zey n;let⟨z,C,E,G,J⟩:=zmw p.hok e;cases G;refine⟨A,c,J,λh' j L=>⟨.ref s.heap.objs.size,_,?_,rfl,y⟩⟩;have M:(zcZ [] i).length<=sizeLine:=by have N:=zcw i [];rw[length_nil]at N;rw[Χ];lia
 have O:∃q,h'.get? s.heap.objs.size=Φ q:=let ⟨q,_,_,T,_⟩:=j;⟨q,T⟩;exact ze7 p (by rw[e];exact True.intro) L O (zkM M C (B.merge .nil) j)
structure M1(X:Cx)(o:Expr)(m:Str)(apos:Pos)(e:Expr)(cpos:Pos):Prop where
 base:attributeBase o m X.env (eval o X.env)=eval o X.env
 few:((backTo cpos (starEach [e] X.env)).all (λx=>!x.1)&&(backToKw cpos (keywordEach [] X.env)).all (λx=>x.1.isSome)
  && decide (([e]:List Expr).length+([]:List Keyword).length+(if([]:List Keyword).isEmpty then 0 else 1)<30))=Γ
 line:(apos.endLine==cpos.line)=Γ
 trees:backTo cpos (starEach [e] X.env)=[(Δ,eval e X.env)]
structure M2(X:Cx)(o:Expr)(m:Str)(apos:Pos)(e f:Expr)(cpos:Pos):Prop where
 base:attributeBase o m X.env (eval o X.env)=eval o X.env
 few:((backTo cpos (starEach [e,f] X.env)).all (λx=>!x.1)&&(backToKw cpos (keywordEach [] X.env)).all (λx=>x.1.isSome)
  && decide (([e,f]:List Expr).length+([]:List Keyword).length+(if([]:List Keyword).isEmpty then 0 else 1)<30))=Γ
 line:(apos.endLine==cpos.line)=Γ
 trees:backTo cpos (starEach [e,f] X.env)=[(Δ,eval e X.env),(Δ,eval f X.env)]
abbrev IsD(H:Hp)(a:Addr):Prop:=(∃b,Rd H a (.dK b))\/∃b,Rd H a (.dT b)
def znb(I:Inv X k l H s)(d:IsD H a):
  s.TypeIs (.ref a) "dict"/\(∀b,Ξ.ref a=.ref b->∃c,s.heap.get? b=Φ c/\c.dict=Ψ)/\(a==sysModules)=Δ:=by
 rcases d with⟨g,e⟩|⟨g,e⟩;let⟨_,h,m,_,f⟩:=zmv I.hok e;refine⟨f.typeIs,λb q=>?_,h⟩;cases q;let⟨c,_,_,i,j,_⟩:=f;exact⟨c,i,j.2.1⟩;let⟨_,h,n,_,f⟩:=zpu I.hok e;refine⟨f.typeIs,λb q=>?_,h⟩;cases q;let⟨c,_,_,i,j,_⟩:=f;exact⟨c,i,j.2.1⟩
section
variable{X:Cx}{pins:List (Addr×Obj)}{σ:St}{H:Hp}{s:Ζ}{a:Addr}{y d:V}{u r:Ξ}{o:Option V}{A:ϐ}{E:Ξ->Ζ->Prop}
def zss(q:A.units+1<cLine)(I:Inv X pins σ H s)(g:DGet H a y o)(n:RelV y u)(rd:RelV d r)(h:∀p s',Inv X pins σ H s'->RelV (o.getD d) p->Q p s'):
  wpAny (model X.prog X.w) A (call (.builtin "dict.get") [.ref a,u,r]) Q E s:=by
 rcases g with⟨i,k,e,j,l⟩|⟨i,k,b,e,j,t,l⟩;subst j;let⟨z,m,w,c,f⟩:=zmv I.hok e;refine call_meetsIn PySem.F.slot_dict_get f.typeIs PySem.F.entry_dict_get (PySem.F.args_dict_get_3 _ _ _) (meets_dict_get_default (zat X.prog X.w) a (zkf n) m r) ⟨_,f.mapOf,h _ _ (I.tok _) ?_⟩;rw[l];exact(c.val k).getD rd;subst j;cases(show u=Ξ.ref b from n);let⟨z,m,v,c,f⟩:=zpu I.hok e;refine call_meetsIn PySem.F.slot_dict_get f.typeIs PySem.F.entry_dict_get (PySem.F.args_dict_get_3 _ _ _) (meetsH_dict_get_default (tupleKind (zat X.prog X.w)) a b m r) ⟨tupleKind_room_in1 q,k,v,zhE I.hok t,f,h _ _ (I.tok _) ?_⟩;rw[l];exact(c.val k).getD rd
end
abbrev zqp(e f g:TE):TE:=λb H Q=>e b H λx c=>∃a,x=.ref a/\IsD c a/\f b c λy h=>g b h λz d=>∃o,DGet d a y o/\Q (o.getD z) d
section
variable{X:Cx}{o e f:Expr}{apos cpos:Pos}{td ty tx:TE}
def zlX(l:X.A.units+1<cLine)(n:PE X o td)(p:PE X e ty)(hf:PE X f tx)(m:M2 X o "get" apos e f cpos):PE X (.Call (.Attribute o "get" apos) [e,f] [] cpos) (zqp td ty tx):=by intro b s c H Q I h;refine wpAny_Call_method m.base m.few m.line PySem.F.plainAttrs_dict PySem.F.slot_dict_get PySem.F.type_dict_get (thn (n b s c H _ I h) λu q k=>?_);let⟨x,r,j,t,a,v,d,w⟩:=k;subst v;obtain rfl:u=Ξ.ref a:=t;let⟨A,B,_⟩:=znb j d;refine⟨A,B,?_⟩;rw[m.trees];exact Calls.callWith_builtin rfl (Calls.evalArgs_plain (Calls.spliced_cons (thn (p b q c r _ j w) λY C z=>eY z λy E G J L=>Calls.spliced_cons (thn (hf b C c E _ G L) λfv s3 ⟨z,M,N,O,ov,g,T⟩=>Calls.spliced_nil (zss l N g J O λw' s4 U i=>⟨_,M,U,i,T⟩)))))
end
end L2
namespace HT
open PySem PyProof.Rows
abbrev lexLt:List Int->List Int->Bool
 | [],[]=>Δ| [],_::_=>Γ|_::_,[]=>Δ|x::a,y::b=>if x=y then lexLt a b else decide (x<y)
def zix(x y)(xs ys):lexLt (x::xs) (y::ys)=if x=y then lexLt xs ys else decide (x<y):=rfl
def ze1:lexLt [] []=Δ:=rfl
def zd8(y)(ys):lexLt [] (y::ys)=Γ:=rfl
def zd9(x)(xs):lexLt (x::xs) []=Δ:=rfl
def zms(A)(s)(a)(t)(c)(u):∃e,SeqAt.EqAt A s (.int a t) (.int c u) e/\(e=Γ↔a=c):=⟨(a==c),SeqAt.EqAt.int_int a t c u,by simp⟩
def zlC(A)(s)(a)(t)(c)(u)(prog)(w)(E)(Q)(h:Q (.bool (decide (a<c))) s):
  wpAny (model prog w) A (richCompare .Lt (.int a t) (.int c u)) Q E s:=
 (PyProof.Rows.lt_int h:wpAny (model prog w) A (compareOp .Lt (.int a t) (.int c u)) Q E s)
section
open PySem.SeqAt
open PySem.AutoSeq1 (wpAny_loadPart')
open PySem.MeetsSeq PySem.MeetsSeq2 PySem.MeetsSeq3
def zeG(l b)(items f)(n n2)(dd N)(sl O)(ns H)(Y:IntsAre items.toList ns)(hj:IntsAre f.toList H):
  Meets (Builtin.«tuple.__lt__» ⟨[.ref l,.ref b],[]⟩)
   (λ_ R s=>s.heap.get? l=Φ {cls:=.type "tuple",dict:=dd,data:=.seq items n,slots:=sl}/\s.heap.get? b=Φ {cls:=.type "tuple",dict:=N,data:=.seq f n2,slots:=O}/\
    R (.ok (.ret (.bool (lexLt ns H)))) s):=
 .of_wp λprog w A R s h=>by
  let⟨I,g,d,J,os⟩:=s;let⟨hl,hb,h⟩:=h;have f2:=AutoSeq1.sub_tuple_tuple;have z1:items.size=ns.length:=by rw[<-Y.length];simp
  have z2:f.size=H.length:=by rw[<-hj.length];simp
  wp_walk using wpAny_loadPart' hl,wpAny_loadPart' hb,wpAny_forIn_list _ (λp b Q=>b.1=Ψ/\Q=⟨I,g,d,J,os⟩/\∃(L M:List Ξ) (j k:List Int),p=L.zip M/\
   IntsAre L j/\IntsAre M k/\j.length+f.size=k.length+items.size/\R (.ok (.ret (.bool (lexLt j k)))) ⟨I,g,d,J,os⟩) _
  case turn=>
   rintro⟨y,x⟩ p b Q ⟨z,rfl,L,M,j,k,m,B,o,i,r⟩;cases B with
   |nil=>rw[List.zip_nil_left]at m;cases m
   |cons a t E=>
    cases o with
    |nil=>rw[List.zip_nil_right]at m;cases m
    |cons c u G=>
     rw[List.zip_cons_cons]at m;injection m with T C;injection T with hy hx;subst hy hx;rw[zix]at r;simp![ϊ]at i;let⟨e,he,v⟩:=zms A.in1 ⟨I,g,d,J,os⟩ a t c u;refine Θ (he prog w _ _ ?_);cases e with
     |true=>
      rw[if_pos (v.mp rfl)]at r
      wp_walk
      exact⟨rfl,rfl,_,_,_,_,C,E,G,by lia,r⟩
     |false=>
      rw[if_neg (λq=>absurd (v.mpr q) Κ)]at r;have U:=zlC A.in1 ⟨I,g,d,J,os⟩ a t c u prog w
      wp_walk using U
      exact⟨_,rfl,by simpa using r⟩
  case fin=>
   rintro⟨b1,b2⟩ Q ⟨z,rfl,L,M,j,k,m,B,o,i,r⟩;simp only at z;subst z;have hv:lexLt j k=decide (items.size<f.size):=by
    cases B with
    |nil=>cases o with| nil=>simp![length_nil]at i;rw[ze1];exact(decide_eq_false (by lia)).symm| cons c u hw=>simp![length_nil,ϊ]at i;rw[zd8];exact(decide_eq_true (by lia)).symm
    |cons a t hv=>cases o with| nil=>simp![length_nil,ϊ]at i;rw[zd9];exact(decide_eq_false (by lia)).symm| cons c u hw=>rw[List.zip_cons_cons]at m;cases m
   rw[hv]at r
   wp_walk
   exact⟨_,rfl,by simpa[Builtin.Tuple.tupleCompareSizes]using r⟩
  case h=>exact⟨rfl,rfl,items.toList,f.toList,ns,H,rfl,Y,hj,by lia,h⟩
end
section
variable{prog:Ο}{w:ϋ}{A:ϐ}{E:Ξ->Ζ->Prop}{s:Ζ}
def lt_tupInts(q:IsTup s.heap l items)(r:IsTup s.heap b a)(t:IntsAre items.toList ns)(u:IntsAre a.toList f)(v:A.units<cLine)(h:Q (.bool (lexLt ns f)) s):wpAny (model prog w) A (compareOp .Lt (.ref l) (.ref b)) Q E s:=by
 let⟨⟨y,z,j,B⟩,k,m,n,o⟩:=id q;let⟨⟨p,g,data2,i⟩,c,d,C,e⟩:=id r;subst m o d e;exact richCompare_meets_room (op:=.Lt) ⟨_,k,rfl⟩ ⟨_,c,rfl⟩ PySem.F.slot_tuple_lt PySem.F.entry_tuple_lt (PySem.F.args_tuple_lt_2 _ _) (zeG l b items a n C z g B i ns f t u)
  ⟨k,c,show Ξ.bool (lexLt ns f)≠Ξ.notImplemented/\Q (.bool (lexLt ns f)) s from⟨(λx=>by cases x),h⟩⟩ v
def cat_tup(u:IsTup s.heap t vs.toArray)(v:IsTup s.heap b a.toArray)(k:vs≠[])(x:a=[]->Q (.ref t) s)(y:a≠[]->Q (.ref s.heap.objs.size) {s with heap:=s.heap.push {cls:=.type "tuple",data:=.seq (vs++a).toArray}})(hsz:vs.length+a.length<=sizeLine):wpAny (model prog w) A (binaryOp .Add (.ref t) (.ref b)) Q E s:=by
 let⟨⟨cls,l,data,m⟩,i,o,n,p⟩:=id u;let⟨⟨q,d,data2,f⟩,c,g,r,h⟩:=id v;subst o p g h;have e:vs.toArray++a.toArray=(vs++a).toArray:=by simp
 by_cases j:a=[]
 exact concat_meets ⟨_,i,rfl⟩ ⟨_,c,rfl⟩ noFill_tuple_add seq_tuple_add PySem.F.slot_tuple_add PySem.F.entry_tuple_add (PySem.F.args_tuple_add_2 _ _)
  (tuple_addW1 t b vs.toArray a.toArray n r l d m f (by simpa using k) (by simp[j])) ⟨i,c,x j⟩
 refine concat_meets ⟨_,i,rfl⟩ ⟨_,c,rfl⟩ noFill_tuple_add seq_tuple_add PySem.F.slot_tuple_add PySem.F.entry_tuple_add (PySem.F.args_tuple_add_2 _ _)
  (tuple_addW2 t b vs.toArray a.toArray n r l d m f (by simpa using k) (by simpa using j) (hsz)) ⟨i,c,?_⟩
 rw[e];exact y j
abbrev sIx(n d:Nat):Option Int->Nat
 |none=>d|some v=>if v<0 then(v+(n:Int)).toNat else min v.toNat n
def zqZ(n d)(hd:d<=n)(o):sIx n d o<=n:=by cases o with|none=>exact hd| some v=>show(if v<0 then(v+(n:Int)).toNat else min v.toNat n)<=n;by_cases a:v<0;lia;rw[if_neg a];exact Nat.min_le_right _ _
def zkV(v)(n d:Nat):(if v<0 then max (v+(n:Int)) 0 else min v (n:Int))=((sIx n d (Φ v):Nat):Int):=by show(if v<0 then max (v+(n:Int)) 0 else min v (n:Int))=(((if v<0 then(v+(n:Int)).toNat else min v.toNat n):Nat):Int);by_cases a:v<0;lia;lia
def ziL(lo a)(n:Nat):Builtin.Slice.sliceAdjust lo a 1 (n:Int)=(((sIx n 0 lo:Nat):Int),((sIx n n a:Nat):Int)):=by
 have b:¬((1:Int)<0):=by lia
 unfold Builtin.Slice.sliceAdjust;refine Prod.ext ?_ ?_;cases lo with|none=>rfl|some v=>exact zkV v n 0
 cases a with|none=>rfl|some v=>exact zkV v n n
def zir(i j:Nat):Builtin.Slice.slicePlaces (i:Int) (j:Int) 1=j-i:=by
 unfold Builtin.Slice.slicePlaces;have a:(1:Int)>0:=by lia
 split<;>lia
def zei(p:IsPart v o)(h:Q o s):wpAny (model prog w) A (Builtin.Slice.slicePartIndex v) Q E s:=by cases p with|none=>exact slicePart_none h|int i t=>exact slicePart_int h
def zc5{lo a}{Q:Int×Int×Nat->Ζ->Prop}(hs:s.heap.IsSliceOf f d e .none)(g:IsPart d lo)(i:IsPart e a)(h:Q (((sIx n 0 lo:Nat):Int),1,sIx n n a-sIx n 0 lo) s):wpAny (model prog w) A (Builtin.Slice.sliceApplied (.ref f) (pure (n:Int))) Q E s:=by
 let⟨os,b,j,c⟩:=id hs;refine Θ (Θ (ϣ b c rfl (Θ (ϣ b c rfl (Θ (ϣ b c rfl (Ω ?_)))))));refine Θ (slicePart_none ?_);refine Θ (zei g (Θ (zei i (Θ (Ω ?_)))));show wpAny _ _ (match Builtin.Slice.sliceAdjust lo a 1 (n:Int) with|(lo,a)=>pure (lo,(1:Int),Builtin.Slice.slicePlaces lo a 1)) _ _ s;rw[ziL lo a n];show wpAny _ _ (pure (((sIx n 0 lo:Nat):Int),(1:Int),Builtin.Slice.slicePlaces ((sIx n 0 lo:Nat):Int) ((sIx n n a:Nat):Int) 1)) _ _ s;rw[zir];exact Ω h
def zlM(xs:Array Ξ)(i k:Nat):((List.range k).filterMap λ(m:Nat)=>xs[((i:Int)+(m:Int)*1).toNat]?).toArray=((xs.toList.drop i).take k).toArray:=by
 have e:(λ(m:Nat)=>xs[((i:Int)+(m:Int)*1).toNat]?)=λm=>xs[i+m]?:=by
  funext m;have:((i:Int)+(m:Int)*1).toNat=i+m:=by lia
  rw[this]
 rw[e];have:=pick_run xs i k;rw[List.filterMap_map]at this;have a:((λx=>xs[x]?)∘λx=>i+x)=λm=>xs[i+m]?:=rfl;rw[a]at this;rw[this]
def getItem_tuple_cut{lo b}(c:IsTup s.heap t items)(hs:s.heap.IsSliceOf i j k .none)(l:IsPart j lo)(n:IsPart k b)(hw:¬(sIx items.size 0 lo=0/\sIx items.size items.size b=items.size))(h:Q (.ref s.heap.objs.size) {s with heap:=s.heap.push {cls:=.type "tuple",data:=.seq ((items.toList.drop (sIx items.size 0 lo)).take (sIx items.size items.size b-sIx items.size 0 lo)).toArray}})(hsz:items.size<=sizeLine):wpAny (model prog w) A (getItem (.ref t) (.ref i)) Q E s:=by
 have a:sizeOk (.seq ((items.toList.drop (sIx items.size 0 lo)).take (sIx items.size items.size b-sIx items.size 0 lo)).toArray):=by show((items.toList.drop (sIx items.size 0 lo)).take (sIx items.size items.size b-sIx items.size 0 lo)).toArray.size<=sizeLine;rw[size_toArray,List.length_take,List.length_drop,length_toList];omega
 let⟨os,d,e,o⟩:=id hs;have f:s.TypeIs (.ref i) "slice":=⟨os,d,e⟩;unfold getItem
 try with_reducible refine ϓ ?_
 refine Θ (wpAny_sequenceKey c.typeIs (by decide) ?_);refine Θ (wpAny_callSpecial?_slot c.typeIs PyProof.Rows.slot_tuple_getitem
  (ϗ PyProof.Rows.slot_tuple_getitem c.typeIs entry_tuple_getitem ?_ (args_tuple_getitem _ _)))
 show wpAny _ _ (Builtin.Tuple.tupleItemsOf (.ref t)>>=_) _ _ s;refine Θ (tupleItemsOf_ c ?_);refine Θ (wpAny_typeOf f ?_);refine Θ (zc5 hs l n ?_);have g:¬((((sIx items.size 0 lo:Nat):Int)==0&&(1:Int)==1&&(sIx items.size items.size b-sIx items.size 0 lo)==items.size)=Γ):=by intro q;replace q:=qL qa1 q;have r:=eq_of_beq q.1.1;have u:=eq_of_beq q.2;exact hw ⟨by omega,by omega⟩
 show wpAny _ _ (if(((sIx items.size 0 lo:Nat):Int)==0&&(1:Int)==1&&(sIx items.size items.size b-sIx items.size 0 lo)==items.size)=Γ then _ else _) _ _ s;rw[if_neg g,zlM]
 first
  |exact Θ (ό (Ω ⟨_,rfl,Ω h⟩) a)
  |exact Θ (ό (Θ (Ω (Ω ⟨_,rfl,Ω h⟩))) a)
  |exact Θ (Θ (ό (Ω (Ω ⟨_,rfl,Ω h⟩)) a))
  |exact Θ (Θ (ό (Ω ⟨_,rfl,Ω h⟩) a))
end
end HT
namespace L2
open PySem PySem.Spec PyProof.Rows
@[reducible]def TO:=St->Hp->(Option Int->Hp->Prop)->Prop
abbrev PO(X:Cx)(e:Option Expr)(t:TO):Prop:=
 ∀(a:List (Addr×Obj))(s:Ζ)(b:St)(H:Hp)(Q:Option Int->Hp->Prop),Inv X a b H s->t b H Q->
  wpAny (model X.prog X.w) X.A (evalPart e X.env) (λu d=>∃o c,Inv X a b c d/\IsPart u o/\Q o c) X.xe s
abbrev zta(t:TE):TO:=λa H Q=>t a H λx b=>∃i,x=.int i/\Q (Φ i) b
def zes:∀{us:List Ξ},Vals (ns.map V.int) us->IntsAre us ns:=by induction ns with|nil=>intro us r;cases r;exact .nil| cons n ns a=>intro us r;cases r with| cons b c=>let⟨t,e⟩:=b;subst e;exact .cons n t (a c)
section
variable{X:Cx}{e:Expr}{te:TE}{lo hi:Option Expr}{tl th:TO}{pos p2:Pos}
def zjG(h:PE X e te):PO X (Φ e) (zta te):=by intro a s b H Q I c;refine thn (h a s b H _ I c) λu k z=>?_;let⟨x,d,f,g,j⟩:=z;let⟨i,rfl,q⟩:=j;let⟨t,rfl⟩:=g;exact⟨Φ i,d,f,.int i t,q⟩
abbrev SlR(X:Cx)(r:V->Option Int->Option Int->Hp->VK->Prop):Prop:=
 ∀(a:List (Addr×Obj))(s:Ζ)(b:St)(H:Hp)(x:V)(v c d:Ξ)(lo hi:Option Int)(f:Addr)(Q:VK),Inv X a b H s->RelV x v->s.heap.IsSliceOf f c d .none->IsPart c lo->IsPart d hi->r x lo hi H Q->
  ∃T id,typeLookup (.type T) "__getitem__"=pure (Φ (.builtin id))/\s.TypeIs v T/\wpAny (model X.prog X.w) X.A (getItem v (.ref f)) (EP X a b Q) X.xe s
abbrev tSl(r:V->Option Int->Option Int->Hp->VK->Prop)(te:TE)(tl th:TO):TE:=λa H Q=>te a H λx b=>tl a b λl c=>th a c λu d=>r x l u d Q
def zlP(j:SlR X r)(k:PE X e te)(m:PO X lo tl)(n:PO X hi th):PE X (.Subscript e (.Slice lo hi Ψ p2) pos) (tSl r te tl th):=by intro a s d H Q I h;refine Subscript_ (thn (k a s d H _ I h) λv o z=>?_);let⟨x,p,t,w,y⟩:=z;refine wpAny_Slice (thn (m a o d p _ t y) λf A z=>eY z λl B C E G=>thn (n a A d B _ C G) λg c z=>?_);let⟨u,i,J,L,M⟩:=z;refine Ω ?_;have N:Inv X a d i {c with heap:=c.heap.push {cls:=.type "slice",data:=.fields #[f,g,.none]}}:=J.kept λb ob q=>Λ _ q;let⟨T,id,O,U,Y⟩:=j a {c with heap:=c.heap.push {cls:=.type "slice",data:=.fields #[f,g,.none]}} d i x v f g l u c.heap.objs.size Q N w (Heap.IsSliceOf.new ..) E L M;exact tail_any U O Y (by with_unfolding_all rfl)
abbrev cutV(xs:List V)(lo hi:Option Int):List V:=(xs.drop (HT.sIx xs.length 0 lo)).take (HT.sIx xs.length xs.length hi-HT.sIx xs.length 0 lo)
def zgS(xs)(lo hi):(cutV xs lo hi).length<=xs.length:=by unfold cutV;rw[List.length_take,List.length_drop];lia
abbrev rSlT(K:PySem.W.Frag):V->Option Int->Option Int->Hp->VK->Prop:=λx lo hi H Q=>∃a b,x=.ref a/\SqT K H a b/\
 ¬(HT.sIx b.length 0 lo=0/\HT.sIx b.length b.length hi=b.length)/\∀p,H p=Ψ->Q (.ref p) (upd H p (.tup (cutV b lo hi)))
def zqB:SlR X (rSlT X.K):=by
 intro g s u H x v w y lo hi z Q I k l m n h;let⟨a,d,rfl,p,t,q⟩:=h;cases k;let⟨f,r,i,j⟩:=I.tuple p;have c:f.toArray.size=d.length:=by exact r.length.symm
 refine⟨"tuple",_,PyProof.Rows.slot_tuple_getitem.lookup,i.typeIs,?_⟩;refine HT.getItem_tuple_cut i l m n (by rw[c];exact t) ?_ (by rw[c];exact j);rw[c];refine⟨.ref s.heap.objs.size,_,I.laid (λb A q=>Λ _ q) (le_refl _) ?_,rfl,q _ (I.hok.fresh (le_refl _))⟩;exact⟨le_trans (zgS d lo hi) j,_,(r.drop (HT.sIx d.length 0 lo)).take (HT.sIx d.length d.length hi-HT.sIx d.length 0 lo),IsTup.new _ _⟩
abbrev zts(K:PySem.W.Frag):R2:=λx y H Q=>∃a b d c,x=.ref a/\y=.ref b/\SqT K H a d/\SqT K H b c/\d≠[]/\d.length+c.length<=sizeLine/\
 (c=[]->Q (.ref a) H)/\(c≠[]->∀p,H p=Ψ->Q (.ref p) (upd H p (.tup (d++c))))
def Vals.nil_iff(r:Vals xs us):us=[]↔xs=[]:=by cases r with|nil=>simp|cons _ _=>simp
def zoK:OpR X (binaryOp .Add) (zts X.K):=by intro f s E H x y v u Q I j k h;let⟨a,b,l,m,rfl,rfl,n,p,r,g,t,A⟩:=h;cases j;cases k;let⟨B,d,C,_⟩:=I.tuple n;let⟨i,c,p2,_⟩:=I.tuple p;refine HT.cat_tup C p2 (λz=>r (d.nil_iff.mp z)) (λz=>⟨.ref a,H,I,rfl,t (c.nil_iff.mp z)⟩) (λz=>?_) (by rw[<-d.length,<-c.length];exact g);refine⟨.ref s.heap.objs.size,_,I.laid (λb G q=>Λ _ q) (le_refl _) ?_,rfl,A (λw=>z (c.nil_iff.mpr w)) _ (I.hok.fresh (le_refl _))⟩;exact⟨by rw[length_append];exact g,_,d.append c,IsTup.new _ _⟩
end
abbrev ixN(n:Nat)(i:Int):Option Nat:=if 0<=i then(if i<n then Φ i.toNat else Ψ) else if -(n:Int)<=i then Φ (i+n).toNat else Ψ
abbrev atI{a:Type}(xs:List a)(i:Int):Option a:=(ixN xs.length i).bind λj=>xs[j]?
def zkh(h:ixN n i=Φ j):seqIndex? i n=Φ j/\j<n/\-(n:Int)<=i/\i<n:=by unfold ixN at h;by_cases b:0<=i;rw[if_pos b]at h;by_cases a:i<n;rw[if_pos a]at h;have e:=Option.some.inj h;exact⟨by rw[seqIndex_of b a,e],by lia,by lia,a⟩;rw[if_neg a]at h;exact nS h;rw[if_neg b]at h;by_cases a:-(n:Int)<=i;rw[if_pos a]at h;have e:=Option.some.inj h;exact⟨by rw[seqIndex_neg (by lia) a,e],by lia,a,by lia⟩;rw[if_neg a]at h;exact nS h
def zgZ(h:atI xs i=Φ v):∃j,seqIndex? i xs.length=Φ j/\xs[j]?=Φ v/\j<xs.length/\-(xs.length:Int)<=i/\i<xs.length:=by
 unfold atI at h;cases e:ixN xs.length i with
 |none=>rw[e]at h;exact nS h
 |some j=>rw[e]at h;let⟨a,b,c,d⟩:=zkh e;exact⟨j,a,h,b,c,d⟩
abbrev zk9(b:Expr):Prop:=∀o i,subscripted b Δ o i=operate [o,i] (getItem o i)
abbrev IxR(X:Cx)(r:R2):Prop:=
 ∀(c a:Expr)(b:List (Addr×Obj))(s:Ζ)(d:St)(H:Hp)(x y:V)(v u:Ξ)(Q:VK),Inv X b d H s->RelV x v->RelV y u->r x y H Q->
  subscripted a Δ v u=operate [v,u] (getItem v u)->wpAny (model X.prog X.w) X.A (subscriptTail c a v u) (EP X b d Q) X.xe s
abbrev MtR(X:Cx)(id:String)(r:V->List V->Hp->VK->Prop):Prop:=
 ∀(a:List (Addr×Obj))(s:Ζ)(b:St)(H:Hp)(x:V)(c:List V)(v:Ξ)(d:List Ξ)(Q:VK),Inv X a b H s->RelV x v->Vals c d->r x c H Q->
  wpAny (model X.prog X.w) X.A (call (.builtin id) (v::d)) (EP X a b Q) X.xe s
section
variable{X:Cx}{a b:Expr}{ta tb:TE}{pos:Pos}
def IxR.or(h:IxR X r)(h':IxR X k):IxR X (λx y H Q=>r x y H Q\/k x y H Q):=by intro c d e s f H x y v u Q I g i q j;rcases q with q|q;exact h c d e s f H x y v u Q I g i q j;exact h' c d e s f H x y v u Q I g i q j
def zrq(d:IxR X r)(e:PE X a ta)(f:PE X b tb)(hs:zk9 b):PE X (.Subscript a b pos) (tOp r ta tb):=by intro c s g H Q I h;exact Subscript_ (binT e f I h λv u i x y j k l m q=>d a b c i g j x y v u Q k l m q (hs _ _))
abbrev rIxL(K:PySem.W.Frag):R2:=λx y H Q=>∃p c i v,x=.ref p/\y=.int i/\SqL K H p c/\atI c i=Φ v/\Q v H
abbrev rIxT(K:PySem.W.Frag):R2:=λx y H Q=>∃p c i v,x=.ref p/\y=.int i/\SqT K H p c/\atI c i=Φ v/\Q v H
abbrev rIxS:R2:=λx y H Q=>∃z i c,x=.str z/\y=.int i/\z.length<=sizeLine/\atI z.cps.toList i=Φ c/\Q (.str ⟨#[c]⟩) H
def ix_list:IxR X (rIxL X.K):=by
 intro e f c s n H x y v u Q I C E h o;let⟨p,U,i,z,rfl,rfl,G,J,q⟩:=h;cases C;let⟨t,rfl⟩:=E;let⟨g,r,k,Y⟩:=I.list G;let⟨j,d,L,h3,M,N⟩:=zgZ J;let⟨w,A,l⟩:=r.get L;have O:=r.length;have hn:=zep;have fin:EP X c n Q w s:=⟨z,H,I,l,q⟩;by_cases B:0<=i;have m:i.toNat=j:=by rw[seqIndex_of B N]at d;exact Option.some.inj d
 exact item_listR k.isList B (by lia) (by rw[m];simpa using A) fin o;have m:(i+(g.toArray.size:Int)).toNat=j:=by rw[seqIndex_neg (by lia) M]at d;rw[size_toArray,<-O];exact Option.some.inj d
 exact subscriptTail_builtinR k.isList.typeIs slot_list_getitem.lookup
  (wpAny_getItem_list_neg k.isList (by lia) (by rw[size_toArray]<;>lia) (by lia) (by rw[m];simpa using A) ⟨rfl,fin⟩) o
def ix_tup:IxR X (rIxT X.K):=by
 intro d e c s g H x y v u Q I l m h n;let⟨p,M,i,z,rfl,rfl,o,A,q⟩:=h;cases l;let⟨t,rfl⟩:=m;let⟨B,r,k,N⟩:=I.tuple o;let⟨j,C,E,O,T,U⟩:=zgZ A;let⟨w,G,f⟩:=r.get E;have J:=r.length;have Y:=zep;have fin:EP X c g Q w s:=⟨z,H,I,f,q⟩;exact subscriptTail_builtinR k.typeIs slot_tuple_getitem.lookup
  (getItem_tuple k (by lia) (by lia) (by rw[size_toArray,<-J];exact C) (by simpa using G) ⟨rfl,fin⟩) n
def zr4:IxR X rIxS:=by
 intro d e f s C H x y v u Q I k l h m;let⟨z,i,c,rfl,rfl,E,n,q⟩:=h;let⟨t,rfl⟩:=k;let⟨G,rfl⟩:=l;let⟨j,g,o,J,p,r⟩:=zgZ n;have w:z.cps.toList.length=z.length:=by simp[Str.length]
 rw[w]at g p r;have L:=zep;exact tail_any (typeIs_str s z t) slot_str_getitem.lookup (getItem_str (by
  have A:decide (i < -(2^63:Int))=Δ:=decide_eq_false (by lia);have B:decide (i≥2^63)=Δ:=decide_eq_false (by lia);rw[A,B,Bool.or_false]) (by rw[g];simpa using o) ⟨.str ⟨#[c]⟩,H,I.tok _,⟨_,rfl⟩,q⟩) m
abbrev rIx(K:PySem.W.Frag):R2:=λx y H Q=>rIxL K x y H Q\/rIxT K x y H Q\/rIxS x y H Q
def zm8:IxR X (rIx X.K):=ix_list.or (ix_tup.or zr4)
def ziu(its:List Ξ)(n j)(u):Obj.mapSeq (·.setIfInBounds j u) {cls:=.type "list",data:=.seq its.toArray n}={cls:=.type "list",data:=.seq (its.set j u).toArray n}:=by simp[Obj.mapSeq]
def Inv.lst{c:List (Addr×Obj)}{d:St}{H:Hp}{s:Ζ}{p:Addr}{xs:List V}(I:Inv X c d H s)(h:H p=Φ (.lst xs)) :
  ∃(its:List Ξ) (n:Nat),Vals xs its/\s.heap.get? p=Φ {cls:=.type "list",data:=.seq its.toArray n}/\xs.length<=sizeLine:=by
 let⟨z,its,n,r,e⟩:=I.hok p _ h;exact⟨its,n,r,e,z⟩
def Inv.lstUpd{its its':List Ξ}(I:Inv X c g H s)(h:H p=Φ (.lst xs))(i:s.heap.get? p=Φ {cls:=.type "list",data:=.seq its.toArray n})(hf:f {cls:=.type "list",data:=.seq its.toArray n}={cls:=.type "list",data:=.seq its'.toArray d})(r:Vals ys its')(hz:ys.length<=sizeLine)(t):
  Inv X c g (upd H p (.lst ys)) {s with heap:=s.heap.update p f,toks:=t}:=by
 have e:(s.heap.update p f).get? p=Φ {cls:=.type "list",data:=.seq its'.toArray d}:=by rw[ϑ f i (by rw[hf]<;>rfl),hf]
 refine I.write (by rw[h];trivial) (.inl rfl) (λb u j q=>(Ρ _ _ (Ne.symm j)).trans q) ⟨_,e⟩ ?_;exact⟨hz,its',d,r,e⟩
abbrev ztr:V->V->V->Hp->(Hp->Prop)->Prop:=λo i v H Q=>∃p c k j,o=.ref p/\i=.int k/\H p=Φ (.lst c)/\ixN c.length k=Φ j/\Q (upd H p (.lst (c.set j v)))
def zlj:PSet X ztr:=by
 intro c s z H o i v L M u Q I A B C h;let⟨p,E,k,j,rfl,rfl,m,G,q⟩:=h;cases A;let⟨t,rfl⟩:=B;let⟨d,n,r,f,J⟩:=I.lst m;let⟨e,N,w,x⟩:=zkh G;have g:=r.length;have O:=zep;have y:=I.lstUpd m f (ziu d n j u) (r.set C j) (by rw[List.length_set];exact J) s.toks;by_cases h0:0<=k;have l:k.toNat=j:=by rw[seqIndex_of h0 x]at e;exact Option.some.inj e
 exact PySem.W.ki_setAt f h0 (by lia) (by rw[size_toArray,<-g];exact x) (by rw[l];exact⟨_,y,q⟩);have l:(k+(d.toArray.size:Int)).toNat=j:=by rw[seqIndex_neg (by lia) w]at e;rw[size_toArray,<-g];exact Option.some.inj e
 exact PySem.W.ki_setBack f (by lia) (by rw[size_toArray,<-g];exact w) (by lia) (by rw[l];exact⟨_,y,q⟩)
def zbQ:zbi X (.builtin "len") (λxs H Q=>∃p ys,xs=[.ref p]/\(SqL X.K H p ys\/SqT X.K H p ys)/\Q (.int ys.length) H):=by intro i s l H xs m Q I r h;let⟨p,ys,rfl,d,q⟩:=h;let⟨u,rfl,j⟩:=ziX r;cases j;have n:=zep;rcases d with d|d;let⟨e,f,g,k⟩:=I.list d;have c:=f.length;exact Calls.call_len_list g.isList (by simp![size_toArray]<;>lia) ⟨.int ys.length,H,I.tok _,⟨s.toks+1,by rw[size_toArray,c]⟩,q⟩;let⟨e,f,g,k⟩:=I.tuple d;have c:=f.length;exact len_tuple g (by simp![size_toArray]<;>lia) ⟨.int ys.length,H,I.tok _,⟨s.toks+1,by rw[size_toArray,c]⟩,q⟩
def zf8:zbi X (.type "list") (λxs H Q=>∃p ys,xs=[.ref p]/\(SqL X.K H p ys\/SqT X.K H p ys)/\∀l,H l=Ψ->Q (.ref l) (upd H l (.lst ys))):=by
 intro i s A H xs C Q I r h;let⟨p,ys,rfl,j,q⟩:=h;let⟨u,rfl,B⟩:=ziX r;cases B;have fin:∀(c:List Ξ),Vals ys c->ys.length<=sizeLine->∀(d:Heap)(f:Nat),(∀b z,s.heap.get? b=Φ z->d.get? b=Φ z)->
   d.get? s.heap.objs.size=Φ {cls:=.type "list",dict:=Ψ,data:=.seq c.toArray f,slots:=#[]}->EP X i A Q (.ref s.heap.objs.size) {s with heap:=d}:=λc g k d f m e=>
  ⟨.ref s.heap.objs.size,_,I.laid m (le_refl _) (show ObjOk X.prog X.w _ d _ (.lst ys) from⟨k,c,f,g,e⟩),rfl,q _ (I.hok.fresh (le_refl _))⟩
 rcases j with j|j;let⟨c,g,v,k⟩:=I.list j;have t:=g.length;let⟨o,w,x,n,y⟩:=v.isList;exact call_list_seq p (.inl rfl) w x y (λd f m e=>fin c g k d f m e) (by simp![size_toArray]<;>lia);let⟨c,g,v,k⟩:=I.tuple j;have t:=g.length;let⟨o,w,x,n,y⟩:=v;exact call_list_seq p (.inr rfl) w x y (λd f m e=>fin c g k d f m e) (by simp![size_toArray]<;>lia)
def zfc:zbi X (.type "tuple") (λxs H Q=>∃p ys,xs=[.ref p]/\((SqL X.K H p ys/\∀l,H l=Ψ->Q (.ref l) (upd H l (.tup ys)))\/(SqT X.K H p ys/\Q (.ref p) H))):=by intro c s k H xs y Q I r h;let⟨p,ys,rfl,h⟩:=h;let⟨u,rfl,v⟩:=ziX r;cases v;rcases h with⟨g,q⟩|⟨g,q⟩;let⟨d,i,j,m⟩:=I.list g;have n:=i.length;refine call_tuple_list j.isList (λf w=>?_) (by simp![size_toArray]<;>lia);have t:=I.kept (t':=s.toks) w;have x:=t.laid (t':=s.toks) (λb o e=>Λ _ e) (le_refl _) (show ObjOk X.prog X.w _ _ _ (.tup ys) from⟨m,d,i,IsTup.new _ _⟩);exact⟨.ref f.objs.size,_,x,rfl,q _ (t.hok.fresh (le_refl _))⟩;let⟨d,i,j,m⟩:=I.tuple g;exact call_tuple_same j ⟨.ref p,H,I,rfl,q⟩
abbrev tyV(K:PySem.W.Frag)(T:String)(x:V)(H:Hp):Prop:=match x with
 |.str _=>T="str"|.int _=>T="int"
 |.ref p=>(T="list"/\∃d,SqL K H p d)\/(T="tuple"/\∃o,K.lookup p=Φ o/\o.cls=.type "tuple"/\o.dict=Ψ)\/
  (T="dict"/\((∃c,H p=Φ (.dK c))\/∃c,H p=Φ (.dT c)))\/(T="set"/\∃S n,H p=Φ (.set S n))
 |_=>False
def zp9(I:Inv X l A H s)(r:RelV x v)(g:tyV X.K T x H):
  s.TypeIs v T/\∀a,v=.ref a->∃m,s.heap.get? a=Φ m/\m.dict=Ψ:=by
 cases x with
 |str z=>let⟨t,rfl⟩:=r;cases(show T="str" from g);exact⟨typeIs_str s z t,λ_ e=>by cases e⟩| int i=>let⟨t,rfl⟩:=r;cases(show T="int" from g);exact⟨typeIs_int s i t,λ_ e=>by cases e⟩| ref p=>
  cases r;rcases g with⟨rfl,B,u⟩|⟨rfl,o,d,w,h⟩|⟨rfl,d⟩|⟨rfl,S,n,d⟩;let⟨y,_,q,_⟩:=I.list u;refine⟨q.isList.typeIs,λa e=>?_⟩;cases e;let⟨o,n,e,c,h,_⟩:=q;exact⟨o,e,h⟩;refine⟨⟨o,I.kIn p o d,w⟩,λa e=>?_⟩;cases e;exact⟨o,I.kIn _ o d,h⟩;have z:∃o,s.heap.get? p=Φ o/\o.ExactDict:=by rcases d with⟨j,d⟩|⟨j,d⟩;let⟨_,_,_,_,o,_,_,e,f,_⟩:=I.hok p _ d;exact⟨o,e,f⟩;let⟨_,_,_,_,o,_,_,e,f,_⟩:=I.hok p _ d;exact⟨o,e,f⟩
  let⟨o,e,f⟩:=z;refine⟨⟨o,e,f.1⟩,λa k=>?_⟩;cases k;exact⟨o,e,f.2.1⟩;let⟨o,_,_,_,e,f,_⟩:=I.hok p _ d;refine⟨⟨o,e,f.1⟩,λa k=>?_⟩;cases k;exact⟨o,e,f.2.1⟩
 |_=>exact False.elim g
abbrev tBM(K:PySem.W.Frag)(T:String)(r:V->List V->Hp->VK->Prop)(e:TE)(t:TA):TE:=λc H Q=>e c H λx d=>tyV K T x d/\t c d λf g=>r x f g Q
variable{o e:Expr}{es:List Expr}{to:TE}{t:TA}{name:Str}{apos cpos:Pos}{T id:String}{r:V->List V->Hp->VK->Prop}
def zru(u:PlainAttrs T)(i:Slot T name id)(l:typeOf (.builtin id)=pure (.type "method_descriptor"))(w:MtR X id r)(y:PE X o to)(A:PA X (e::es) t)
  (f:attributeBase o name X.env (eval o X.env)=eval o X.env:=by rfl)
  (j:((backTo cpos (starEach (e::es) X.env)).all (λx=>!x.1)&&(backToKw cpos (keywordEach [] X.env)).all (λx=>x.1.isSome)
   && decide ((e::es).length+([]:List Keyword).length+(if([]:List Keyword).isEmpty then 0 else 1)<30))=Γ:=by rfl)
  (g:(apos.endLine==cpos.line)=Γ:=by rfl) (hs:starEach (e::es) X.env=(Δ,eval e X.env)::starEach es X.env:=by rfl) (d:(backTo cpos (starEach es X.env)).any (·.1)=Δ:=by rfl) :
  PE X (.Call (.Attribute o name apos) (e::es) [] cpos) (tBM X.K T r to t):=by
 intro c s m H Q I h;refine wpAny_Call_method_late f j g rfl (thn (y c s m H _ I h) λv B z=>?_);let⟨x,C,n,p,E,G⟩:=z;let⟨J,L⟩:=zp9 n p E;refine⟨T,id,u,i,l,J,L,?_⟩;have q:=A cpos c B m C _ n G;rw[hs]at q⊢;refine Calls.callWith_builtin (by show(Δ||(backTo cpos (starEach es X.env)).any (·.1))=Δ;rw[d]<;>rfl) (Calls.evalArgs_plain ?_);exact thn q λM N k=>(by let⟨O,U,Y,r2,q2⟩:=k;exact w c N m U x O v M Q Y p r2 q2)
end
abbrev MtM(X:Cx)(id:String)(r:V->List V->Hp->VK->Prop):Prop:=
 ∀(a:List (Addr×Obj))(s:Ζ)(b:St)(H:Hp)(x:V)(c:List V)(v:Ξ)(d:List Ξ)(Q:VK),Inv X a b H s->RelV x v->Vals c d->r x c H Q->
  wpAny (model X.prog X.w) X.A (call (.builtin id) (v::d)) (EP X a b Q) X.xe s
def Vals.one{x:V}{us:List Ξ}(h:Vals [x] us):∃u,us=[u]/\RelV x u:=by cases h with|cons r t=>cases t;exact⟨_,rfl,r⟩
def Vals.rep(h:Vals xs us):∀k:Nat,Vals (List.replicate k xs).flatten (List.replicate k us).flatten
 |0=>.nil| k+1=>by exact Vals.append h (Vals.rep h k)
def zfX(its):∀(k:Nat)(a:List Ξ),
  List.foldl (λb c=>b++c) a.toArray (List.replicate k its.toArray)=(a++(List.replicate k its).flatten).toArray
 |0,a=>by simp| k+1,a=>by
  have e:a.toArray++its.toArray=(a++its).toArray:=by simp
  have d:(a++its)++(List.replicate k its).flatten=a++(List.replicate (k+1) its).flatten:=by rw[replicate_succ,flatten_cons,append_assoc]
  rw[<-d,<-zfX its k (a++its),<-e,replicate_succ,List.foldl_cons]
section
variable{X:Cx}{pins:List (Addr×Obj)}{σ:St}{H:Hp}{s:Ζ}{l b:Addr}{xs ys zs:List V}
def Inv.lset{its its':List Ξ}(I:Inv X pins σ H s)(a:H l=Φ (.lst xs))(e:s.heap.get? l=Φ {cls:=.type "list",data:=.seq its.toArray n})(c:f its.toArray=its'.toArray)(d:Vals ys its')(hz:ys.length<=sizeLine):
  Inv X pins σ (upd H l (.lst ys)) {s with heap:=s.heap.update l (Obj.mapSeq f),toks:=t'}:=by
 have q:=PySem.IsL.update e f;rw[c]at q;refine I.write (by rw[a];exact trivial) (.inl rfl) (λi u g h=>(Ρ s.heap (Obj.mapSeq f) (Ne.symm g)).trans h) ⟨_,q⟩ ?_;exact⟨hz,its',_,d,q⟩
def Inv.lnew(I:Inv X pins σ H s)(a:Vals ys its)(hz:ys.length<=sizeLine):
  Inv X pins σ (upd H s.heap.objs.size (.lst ys)) {s with heap:=s.heap.push {cls:=.type "list",data:=.seq its.toArray},toks:=t'}:=
 I.laid (λ_ _ q=>Λ _ q) (le_refl _) ⟨hz,its,0,a,Ι _ rfl⟩
def Inv.fresh(I:Inv X pins σ H s):H s.heap.objs.size=Ψ:=I.hok.fresh (le_refl _)
def Inv.lstM(I:Inv X pins σ H s)(a:H l=Φ (.lst xs)):xs.length<=sizeLine/\∃(its:List Ξ) (n:Nat),Vals xs its/\xs.length=its.length/\s.heap.get? l=Φ {cls:=.type "list",data:=.seq its.toArray n}:=by let⟨z,its,n,r,e⟩:=I.hok l _ a;exact⟨z,its,n,r,r.length,e⟩
def zhq(h:n<=sizeLine):Builtin.List.listTooLong n=Δ:=by exact decide_eq_false (by lia)
end
section
variable{X:Cx}
abbrev zop:V->List V->Hp->VK->Prop:=λx b H Q=>∃l a y,x=.ref l/\b=[y]/\H l=Φ (.lst a)/\a.length<sizeLine/\Q .non (upd H l (.lst (a++[y])))
def zfF:MtM X "list.append" zop:=by intro b s i H x j v k Q I d f h;let⟨l,m,y,rfl,rfl,c,o,q⟩:=h;cases d;let⟨u,rfl,g⟩:=f.one;let⟨z,a,n,r,p,e⟩:=I.lstM c;refine call_meets F.slot_list_append ⟨_,e,rfl⟩ F.entry_list_append (F.args_list_append_2 _ _) (PySem.list_append l a.toArray n u (by rw[size_toArray];lia)) ⟨e,?_⟩;refine⟨.non,_,I.lset c e (by simp) (r.append (.cons g .nil)) ?_,rfl,q⟩;rw[length_append,List.length_singleton];lia
abbrev zoo:V->List V->Hp->VK->Prop:=λx d H Q=>∃l b a c,x=.ref l/\d=[.ref b]/\H l=Φ (.lst a)/\H b=Φ (.lst c)/\a.length+c.length<=sizeLine/\Q .non (upd H l (.lst (a++c)))
def zjV:MtM X "list.extend" zoo:=by
 intro g s A H x B v C Q I j k h;let⟨l,b,E,G,rfl,rfl,i,m,J,q⟩:=h;cases j;let⟨u,rfl,o⟩:=k.one;cases o;let⟨z,c,n,r,L,e⟩:=I.lstM i;let⟨M,a,p,t,w,y⟩:=I.lstM m;have f:c.toArray.size+a.toArray.size<=sizeLine:=by rw[size_toArray,size_toArray];lia
 have d:¬(!c.toArray.isEmpty&&Builtin.List.listTooLong (c.toArray.size+a.toArray.size))=Γ:=by rw[zhq f,Bool.and_false];exact Κ
 refine call_meets F.slot_list_extend ⟨_,e,rfl⟩ F.entry_list_extend (F.args_list_extend_2 _ _)
  (AutoSeq1.list_extend_list_list_0 l c.toArray n b a.toArray p d (by lia) (by lia)) ⟨e,y,?_⟩
 refine⟨.non,_,I.lset i e (by simp) (r.append t) ?_,rfl,q⟩;rw[length_append];lia
abbrev rCat:R2:=λx y H Q=>∃l b a c,x=.ref l/\y=.ref b/\H l=Φ (.lst a)/\H b=Φ (.lst c)/\a.length+c.length<=sizeLine/\∀p,H p=Ψ->Q (.ref p) (upd H p (.lst (a++c)))
def zrG:OpR X (binaryOp .Add) rCat:=by
 intro d s p H x y v u Q I f g h;let⟨l,b,t,w,rfl,rfl,i,hB,A,q⟩:=h;cases f;cases g;let⟨z,c,n,r,B,e⟩:=I.lstM i;let⟨C,a,E,j,k,m⟩:=I.lstM hB;refine PySem.P.add_list e m ?_ (by rw[size_toArray,size_toArray];lia);have o:c.toArray++a.toArray=(c++a).toArray:=by simp
 rw[o];exact⟨.ref _,_,I.lnew (r.append j) (by rw[length_append];lia),rfl,q _ I.fresh⟩
abbrev rRep:R2:=λx y H Q=>∃l k a,x=.ref l/\y=.int k/\H l=Φ (.lst a)/\-(2^63)<=k/\k<2^63/\a.length*k.toNat<=sizeLine/\
 ∀p,H p=Ψ->Q (.ref p) (upd H p (.lst (List.replicate k.toNat a).flatten))
def zj8{a:Type}(xs:List a)(k):(List.replicate k xs).flatten.length=k*xs.length:=by induction k with|zero=>simp|succ k b=>rw[replicate_succ,flatten_cons,length_append,b,Nat.succ_mul,Nat.add_comm]
def zrz:OpR X (binaryOp .Mult) rRep:=by
 intro p s N H x y v u Q I A B h;let⟨l,k,O,rfl,rfl,C,E,G,w,q⟩:=h;cases A;let⟨t,rfl⟩:=B;let⟨z,b,n,r,J,e⟩:=I.lstM C;have d:b.toArray.size*k.toNat<=sizeLine:=by rw[size_toArray,<-J];exact w
 have f:¬b.toArray.size*k.toNat>(2^63-1)/8:=by
  have:(sizeLine:Nat)<=(2^63-1)/8:=by decide
  lia
 have g:¬(!Builtin.List.listFitsIndex k)=Γ:=by rw[fitsIndex_both E G];exact Κ
 have c:¬Builtin.List.listTooLong (b.toArray.size*k.toNat)=Γ:=by rw[zhq d];exact Κ
 have i:List.foldl (λj o=>j++o) #[] (List.replicate (if b.toArray.isEmpty=Γ then 0 else k.toNat) b.toArray)=(List.replicate k.toNat b).flatten.toArray:=by
  have L:∀m:Nat,List.foldl (λj o=>j++o) #[] (List.replicate m b.toArray)=(List.replicate m b).flatten.toArray:=λm=>by have:=zfX b m [];exact this
  rw[L];cases b with|nil=>simp|cons a Y=>rw[if_neg (by simp)]
 refine wpAny_binaryOp_repeat_ref (by decide) ⟨_,e,rfl⟩ (λM=>typeIs_int M k t) noFill_list_mul F.fills_int_mul F.slot_int_rmul repeat_list F.slot_int_index.lookup
  (call_meets F.slot_int_rmul (typeIs_int s k t) F.entry_int_rmul (F.args_int_rmul_2 _ _) (int___rmul___int_list k t l b.toArray n)
   ⟨e,rfl,⟨_,e,rfl⟩,call_meets F.slot_list_mul ⟨_,e,rfl⟩ F.entry_list_mul (F.args_list_mul_2 _ _) (AutoListH.list___mul___list_int_3 l b.toArray n k t g f c) ⟨e,?_⟩⟩)
 rw[i];exact⟨.ref _,_,I.lnew (r.rep k.toNat) (by rw[zj8,Nat.mul_comm];exact w),rfl,q _ I.fresh⟩
end
end L2
namespace Att
open PySem PySem.W PySem.Calls PyProof.Rows
def zdJ:∀(ns:List Int)(vs:List Ξ),WellAll P h vs (ns.map WData.int)->IntsAre vs ns:=by intro ns;induction ns with| nil=>intro vs w;cases w;exact .nil| cons n ns c=>intro vs w;cases w with| cons a b=>cases a;exact .cons _ _ (c _ b)
def zjd{l:OpenLaw}(o:l.most=Φ n)(b:l.row.toRowW.claim.pre args=Γ)(j:WellAll P h c args):
  ∃a vs ns,c=[Ξ.ref a]/\args=[WData.list (ns.map WData.int)]/\h.get? a=Φ {cls:=.type "list",data:=.seq vs.toArray}/\IntsAre vs ns/\ns.length<=n:=by
 have k:=(pre_splitW b).1;have m:l.pre.holds [] {args:=args}=Γ:=(pre_splitW b).2;let⟨d,r,rfl,p,s⟩:=hasAllW_cons k;obtain rfl:=hasAllW_nil s;let⟨y,rfl,t⟩:=hasW_list p;let⟨ns,rfl⟩:=items_int t;have e:ns.length<=n:=by
  unfold OpenLaw.pre at m;have g:(WTm.not (.lt (.lit (.int (n:Int))) (.len (.arg 0)))).holds [] {args:=[.list (ns.map .int)]}=Γ:=by have g:=(holds_andW m).1;rw[o]at g;exact g
  have i:=condW_of g (w_not (w_lt w_lit (w_len_list (w_arg rfl))));rw[length_map]at i;refine Nat.le_of_not_lt λq=>?_;have u:(n:Int)<((ns.length:Nat):Int):=by omega
  first
   |(exact absurd i (by decide))
   |(simp at i;omega)
 cases j with| cons v w=>cases w;cases v with|list x f=>exact⟨_,_,ns,rfl,rfl,x,zdJ ns _ f,e⟩
def zjF(l:OpenLaw)(args):l.row.toRowW.claim.post args (.bool Γ) args=Γ:=
 postW_of
  (show WShape.has [] (.bool Γ) .bool=Γ by first|rfl|decide|simp[WShape.arms])
  (show(WTm.eq .res (.lit (.bool Γ))).value [] {args:=args,res:=Φ (.bool Γ),after:=args}=Φ (.bool (Γ==Γ)) from w_eq_bool (w_res rfl) w_lit) rfl
def attach_call{l:OpenLaw}(B:l.most=Φ n)(s:d.params.defaults=[])(call:∀(w:ϋ)(s₀ b:Ζ)(m t:Str->Option Ξ)(h:Addr)(o:Obj)(u p c:Ξ)(a:Addr)(vs:List Ξ)(ns:List Int),
   Ground q e [] C w s₀ m t b.heap->YP w b.heap->
   b.heap.get? h=Φ o->o.data=.func (docDef d.name d.params d.body d.scope u p c)->b.heap.CodeRec p d.name->m d.name=Φ (.ref h)->
   b.heap.get? a=Φ {cls:=.type "list",data:=.seq vs.toArray}->IntsAre vs ns->ns.length<=n->b.gens = #[]->
   codeAny (model l.prog w) callerA (.call (.ref h) ⟨[.ref a],[]⟩) (λr s'=>r=.ok (.ret (.bool Γ))/\OldK b.heap s'.heap/\s'.os=b.os/\AllBare s'.gens) b):
  WalkO q e C YP l.row.toRowW d [] (λf vs=>PySem.call f vs):=by
 intro w s₀ b m t G Y h o u p c E kV H I v hD x J args z as i A L y M;obtain rfl:E=.none:=Dflts.none hD s;obtain rfl:kV=.none:=Dflts.noKw hD;let⟨a,vs,ns,rfl,rfl,j,g,k⟩:=zjd B i y;refine enter_call (ϕ (call w s₀ b m t h o u p c a vs ns G Y H (fd_plain I) v x j g k J) λr s' N=>?_);let⟨rfl,O,Q,T⟩:=N;exact⟨.inl ⟨.bool Γ,.bool Γ,[],rfl,λ_=>rfl,.bool Γ,zjF l _,λ_=>⟨Pairwise.nil,λ_ U=>(by cases U)⟩⟩,O,Q,T⟩
end Att
namespace L2
open PySem PySem.Spec PyProof.Rows
def zck:∀{vs:List Ξ}{ns:List Int},IntsAre vs ns->Vals (ns.map V.int) vs
 |_,_,.nil=>.nil|_,_,.cons n t h=>.cons ⟨t,rfl⟩ (zck h)
set_option backward.match.sparseCases false in
abbrev zaz(s:Stmt):Arguments:=match s with|.FunctionDef _ a _ _ _ _ _ _ _ _=>a|_=>{posonlyargs:=[],args:=[],vararg:=Ψ,kwonlyargs:=[],kw_defaults:=[],kwarg:=Ψ,defaults:=[]}
abbrev zal(s:Stmt):List Stmt:=match s with|.FunctionDef _ _ b _ _ _ _ _ _ _=>b|_=>[]
abbrev zac(s:Stmt):Scope:=match s with|.FunctionDef _ _ _ _ _ _ a _ _ _=>a|_=>{kind:=.function,names:=[],isGenerator:=Δ,isCoroutine:=Δ}
@[reducible]def CX0:CXT:=λ_ _ _ _ _ _=>False
@[reducible]def E0:XK:=λ_ _ _=>False
def zgE:zdZ CX0 X E0:=λ_ _ _ _ _ _ _ h=>h.elim
structure Fun(K:PySem.W.Frag)(x qual:Str)(st:Stmt)(f:Addr)(fd:FuncData):Prop where
 ex:∃(oc:Ξ) (od:Option Addr) (kV doc pm:Ξ) (an:Option Addr) (cdv ct:Ξ) (osl:Array (Option Ξ)),
  fd=fnOf x qual (zaz st) (zal st) (zac st) .none kV doc pm an cdv ct/\K.lookup f=Φ ⟨oc,od,.func fd,osl⟩/\codeIn K cdv qual=Γ
 kp:keepIn K (.ref f)=Γ
abbrev Same(H H':Hp):Prop:=∀b o,H b=Φ o->H' b=Φ o
section
variable{X:Cx}
def zkW:zbi X (.builtin "len") (λxs H Q=>∃a b,xs=[V.ref a]/\H a=Φ (.dK b)/\Q (.int b.length) H):=by intro c s g H xs i Q I r h;let⟨a,b,rfl,d,q⟩:=h;let⟨u,rfl,e⟩:=ziX r;cases e;exact zud I (.inl d) λt j f=>⟨.int b.length,H,f,⟨t,rfl⟩,q⟩
end
abbrev zba(a:List (Str×Addr))(y:Str×NameKind)(b:List (Str×Addr)):List (Str×Addr):=if(y.2==NameKind.free)=Γ then(match a.lookup y.1 with|some c=>(y.1,c)::b|none=>b) else b
abbrev zf7(b:List (Str×Addr))(names:List (Str×NameKind))(c:List (Str×Addr)):List (Str×Addr):=names.foldl (λa y=>zba b y a) c
def zdM{c a:Type}(f)(g:c->a->a):∀(l:List c)(b:a),(∀x∈l,∀b,f x b=pure (.yield (g x b)))->forIn l b f=(pure (l.foldl (λb x=>g x b) b):Sem a)
 | [],b,_=>rfl| x::l,b,h=>by rw[List.forIn_cons,h x Ν];exact zdM f g l _ λy d=>h y (Μ _ d)
def zaO(h:∀y∈scope.names,y.2=.free->∃c,env.cells.lookup y.1=Φ c):
  closureFor scope env=pure (zf7 env.cells scope.names []):=by
 unfold closureFor zf7;dsimp only;rw[zdM _ (λy a=>zba env.cells y a)];simp;intro y e a;let⟨n,k⟩:=y;by_cases b:k=.free;let⟨c,d⟩:=h _ e b;subst b;simp[cellOf,d,zba];have:(k==NameKind.free)=Δ:=by simpa using b
 simp[this,zba]
def zf6:∀(names:List (Str×NameKind))(b:List (Str×Addr)),(∀x c,b.lookup x=Φ c->a.lookup x=Φ c)->
  ∀x c,(zf7 a names b).lookup x=Φ c->a.lookup x=Φ c
 | [],b,h=>h| y::r,b,h=>by
  refine zf6 r (zba a y b) ?_;intro x c e;unfold zba at e;split at e;split at e;rename_i g d;rw[lookup_cons]at e;cases f:x==y.1 with| true=>rw[f]at e;have q:=beq_iff_eq.mp f;have i:=Option.some.inj e;rw[q,<-i];exact d|false=>rw[f]at e;exact h x c e
  exact h x c e;exact h x c e
def zdQ:∀(names:List (Str×NameKind))(a:List (Str×Addr))(x:Str),(∀y∈names,y.2=.free->∃c,b.lookup y.1=Φ c)->
  ((∃c,a.lookup x=Φ c)\/(x,NameKind.free)∈names)->∃c,(zf7 b names a).lookup x=Φ c
 | [],a,x,_,h=>by rcases h with h|h;exact h;cases h
 |y::r,a,x,d,h=>by
  refine zdQ r (zba b y a) x (λz f=>d z (Μ _ f)) ?_;rcases h with⟨c,h⟩|h;left;unfold zba;split;split;rename_i g i;rw[lookup_cons];cases j:x==y.1 with|true=>exact⟨g,rfl⟩|false=>exact⟨c,h⟩
  exact⟨c,h⟩;exact⟨c,h⟩;rcases mem_cons.mp h with h|h;left;subst h;let⟨c,e⟩:=d _ Ν rfl;refine⟨c,?_⟩;simp[zba,e];exact .inr h
abbrev zb4(env:Env)(y:Str×NameKind):Str×NameKind:=if(y.2==.free&&env.scope.kind==.function&&env.kindOf y.1==Φ .cell)=Γ then(y.1,.cell) else y
def zbw(scope)(env):(relabel scope env).names=scope.names.map (zb4 env):=by refine List.map_congr_left λy _=>?_;rfl
def zdr(env)(y):(zb4 env y).1=y.1:=by unfold zb4;split<;>rfl
def zdq(env)(y):(zb4 env y).2=y.2\/(y.2=.free/\(zb4 env y).2=.cell):=by unfold zb4;split;rename_i h;replace h:=qL qb1 h;exact .inr ⟨h.1.1,rfl⟩;exact .inl rfl
def zbI(env)(x):∀names:List (Str×NameKind),∀k,(names.map (zb4 env)).lookup x=Φ k->∃a,(x,a)∈names/\names.lookup x=Φ a/\(k=a\/(a=.free/\k=.cell))
 | [],k,h=>by simp at h| y::r,k,h=>by rw[Υ]at h;have c:=zdr env y;have d:=zdq env y;let⟨n,f⟩:=y;generalize j:zb4 env (n,f)=z at *;let⟨g,i⟩:=z;subst c;rw[lookup_cons]at h;rw[lookup_cons];cases b:x==g with| true=>rw[b]at h;have q:=beq_iff_eq.mp b;subst q;have e:=Option.some.inj h;subst e;exact⟨f,Ν,rfl,d⟩| false=>rw[b]at h;let⟨a,m,l,q⟩:=zbI env x r k h;exact⟨a,Μ _ m,l,q⟩
def zbx(env)(x):∀names:List (Str×NameKind),names.lookup x=Φ .free->(names.map (zb4 env)).lookup x=Φ .free\/(names.map (zb4 env)).lookup x=Φ .cell
 | [],h=>by simp at h| y::r,h=>by
  rw[Υ];have b:=zdr env y;have a:=zdq env y;let⟨n,c⟩:=y;generalize i:zb4 env (n,c)=z at *;let⟨g,d⟩:=z;simp only at b a;subst b;rw[lookup_cons]at h;rw[lookup_cons];cases f:x==g with
  |true=>rw[f]at h;have e:=Option.some.inj h;subst e;rcases a with a|⟨_,a⟩;left;rw[a];right;rw[a]
  |false=>rw[f]at h;exact zbx env x r h
structure CompOk(sc scope:Scope)(N0:List Str)(js:List Nat):Prop where
 kind:scope.kind=.function
 nocell:∀y∈scope.names,y.2≠.cell
 locs:∀y∈scope.names,y.2=.local->scope.names.lookup y.1=Φ .local
 frees:∀y∈scope.names,y.2=.free->sc.names.lookup y.1=Φ .cell\/sc.names.lookup y.1=Φ .free
 caps:∀j∈js,scope.names.lookup (N0.getD j "")=Φ .free/\j<N0.length
noncomputable abbrev zaG(X:Cx)(a:List Str)(scope:Scope)(cl:List (Str×Addr))(C:Addr)(b:List Addr)(s:Ζ)(H:Hp)(pn:List (Addr×Obj)):Cx:={X with N:=a,s₀:=s,H₀:=H,env:=compEnvC scope cl C X.env,outer:=X.stack,stack:=X.stack,ex:=b,fn:=λ_=>Δ,pn:=pn,xe:=λ_ _=>False}
noncomputable abbrev cxX(XE:Cx->Ξ->Ζ->Prop)(X:Cx)(a:List Str)(scope:Scope)(cl:List (Str×Addr))(C:Addr)(b:List Addr)(s:Ζ)(H:Hp)(pn:List (Addr×Obj)):Cx:={zaG X a scope cl C b s H pn with xe:=XE (zaG X a scope cl C b s H pn)}
abbrev csl(a:Nat)(b:List Nat)(c:St):St:=List.replicate a Ψ++b.map λj=>(c[j]?).join
noncomputable abbrev capN(a:List Str)(tgs:List Str)(b:List Nat):List Str:=tgs++b.map λj=>a.getD j ""
abbrev PTs(X:Cx)(b:List Expr)(t:TT):Prop:=
 ∀(a:List (Addr×Obj))(s:Ζ)(d:St)(H:Hp)(Q:Bool->Hp->Prop),Inv X a d H s->t d H Q->
  wpAny (model X.prog X.w) X.A (forIn b Γ λc r=>if r=Γ then do let e <-isTrue c X.env (eval c X.env);pure (ForInStep.yield e) else pure (ForInStep.yield r)) (TP X a d Q) X.xe s
abbrev tYes:TT:=λ_ H Q=>Q Γ H
def zgA:PTs X [] tYes:=λa s b H Q I h=>wpAny_tests_nil ⟨H,I,h⟩
def zjD(h:PT X c t):PTs X [c] t:=λa s b H Q I q=>wpAny_tests_one (h a s b H Q I q)
abbrev zgn(o:Nat)(q:List Nat)(r:TI)(g:TG)(s:TT)(t:TE):TE:=λh H Q=>r h H λJ j=>∀p,j p=Ψ->
 ∃W:Nat->Nat->St->Hp->Prop,(∃m,W 0 m (csl o q h) (upd j p (.lst [])))/\∀i m d e,W i m d e->
  (J.stop i e/\Q (.ref p) e)\/(J.go i e/\∃N:St->Hp->Prop,(∀a f,N a f->∃k,k<m/\W (i+1) k a f)/\
   ∀x f,J.yld i e x f->g x d f λa u=>s a u λb l=>if b=Γ then t a l λv n=>∃c,n p=Φ (.lst c)/\c.length<sizeLine/\N a (upd n p (.lst (c++[v]))) else N a l)
section
variable{prog:Ο}{w:ϋ}{A:ϐ}{R:Result->Ζ->Prop}{s:Ζ}
def ziD(J:Nat->Ζ->Prop)(hE:∀e s',E e s'->notedBy (model prog w) A env (λx B=>R (.error x) B) e s')(k:∀n s,J n s->wpAny (model prog w) A (pyNext it) (λr b=>(r=Ψ/\R (.ok .next) b)\/∃v,r=Φ v/\
   wpAny (model prog w) A (letOwnedTupleGo C it v) (λ_ s₀=>wpAny (model prog w) A (assign C env v) (λ_ f=>
    wpAny (model prog w) A (forIn l Γ λc r=>if r=Γ then do let ok <-isTrue c env (eval c env);pure (ForInStep.yield ok) else pure (ForInStep.yield r)) (λok d=>
     if ok=Γ then wpAny (model prog w) A (eval o env) (λx g=>wpAny (model prog w) A (call (.builtin "list.append") [p,x]) (λ_ i=>∃m,m<n/\J m i) E g) E d
     else ∃m,m<n/\J m d) E f) E s₀) E b) E s)(n)(h:J n s):codeAny (model prog w) A (.compLoop (.ListComp o [⟨C,q,l,0⟩] scope pos) 0 it p env) R s:=by
 refine codeAny_loop rfl J (λn s G=>?_) n h;refine wpAny_noted ?_;refine Θ (wpAny_standAt (Θ (Τ (k n s G) (λr b a=>?_) hE)));rcases a with⟨rfl,a⟩|⟨v,rfl,a⟩;exact Ω a;refine Θ (Τ a (λ_ s₀ t=>?_) hE);refine Θ (Τ t (λ_ f u=>?_) hE);refine Θ (Τ u (λok d j=>?_) hE);cases ok with|false=>exact Ω ⟨rfl,j⟩| true=>exact Θ (Θ (Τ j (λx g y=>(Θ (Τ y (λ_ i z=>Ω (Ω ⟨rfl,z⟩)) hE))) hE))
end
section
variable{X:Cx}{sc scope:Scope}{tgs:List Str}{js:List Nat}{elt tg iter:Expr}{ifs:List Expr}{pos:Pos}{wi:TI}{g:TG}{tt:TT}{te:TE}
def zcf(XE)(hc:X.calm=Γ)(hsc:X.env.scope=sc)(ok:CompOk sc scope X.N js)(hg:∀cl C A s H pn,PG (cxX XE X (capN X.N tgs js) scope cl C A s H pn) tg g)(ht:∀cl C A s H pn,PTs (cxX XE X (capN X.N tgs js) scope cl C A s H pn) ifs tt)(he:∀cl C A s H pn,PE (cxX XE X (capN X.N tgs js) scope cl C A s H pn) elt te){RR:Ξ->Addr->Result->Ζ->Prop}{Q:VK}(I2:Inv X a σ H2 s2)(T:Turn X.prog X.w X.K tg J A it tn)(st2:tn 0 s2.heap)(f2:∀b∈A,FpOk X a H2 b)(rd:∀p,H2 p=Ψ->∃W:Nat->Nat->St->Hp->Prop,(∃m,W 0 m (csl tgs.length js σ) (upd H2 p (.lst [])))/\∀i m B H',W i m B H'->
   (J.stop i H'/\Q (.ref p) H')\/(J.go i H'/\∃N:St->Hp->Prop,(∀O H2,N O H2->∃m',m'<m/\W (i+1) m' O H2)/\
    ∀x H2,J.yld i H' x H2->g x B H2 λO U=>tt O U λb H4=>if b=Γ then te O H4 λv H5=>∃I,H5 p=Φ (.lst I)/\I.length<sizeLine/\N O (upd H5 p (.lst (I++[v]))) else N O H4))(fin:∀p C H' s',Inv X a σ H' s'->(∃m,s'.heap.Ns C m)->s2.heap.objs.size<C->H' C=Ψ->Q (.ref p) H'->RR (.ref p) C (.ok .next) s')(err:∀(Y:Cx)(p C:Addr),Y.env.frame=X.env.frame->X.s₀.heap.objs.size<=Y.s₀.heap.objs.size->(∀pins' B H' s',Inv Y pins' B H' s'->Inv X a σ H' s'/\(∃m,s'.heap.Ns C m)/\H' C=Ψ)->s2.heap.objs.size<C->(∀q∈X.pn++a,q.1<Y.s₀.heap.objs.size)->∀e s',XE Y e s'->notedBy (model X.prog X.w) X.A Y.env (λx s''=>RR (.ref p) C (.error x) s'') e s'):
  wpAny (model X.prog X.w) X.A (newList []) (λI s₃=>wpAny (model X.prog X.w) X.A (newFunctionEnv scope X.env.globals (zf7 X.env.cells scope.names []) [] X.env.qual Ψ .none (Φ X.env)) (λcenv s₄=>codeAny (model X.prog X.w) X.A (.compStart (.ListComp elt [⟨tg,iter,ifs,0⟩] scope pos) 0 (.ref it) I {cenv with scope:=relabel scope X.env}) (RR I cenv.locals) s₄) E s₃) E s2:=by
 subst hsc;refine ό (wpAny_newFunctionEnv ok.nocell (by intro y hy;simp at hy) (λG hns₁ hsb₁=>?_) ok.kind);have t:=I2.lnew (its:=[]) (ys:=[]) (t':=s2.toks) .nil (zero_le _);let⟨W,⟨m0,w0⟩,turn⟩:=rd _ I2.fresh;generalize hp:s2.heap.objs.size=p at *;generalize hs3:({s2 with heap:=s2.heap.push {cls:=.type "list",data:=.seq ([]:List Ξ).toArray}}:Ζ)=l at t;have e3:l.heap=s2.heap.push {cls:=.type "list",data:=.seq ([]:List Ξ).toArray}:=by rw[<-hs3]
 have sz3:l.heap.objs.size=p+1:=by rw[e3,ϔ,hp]
 generalize hH3:upd H2 p (.lst [])=U at *
 have hns:G.Ns l.heap.objs.size (λx=>([]:List (Str×Ξ)).reverse.lookup x):=by rw[e3];exact hns₁
 have hsb:Heap.SameBut l.heap.objs.size (l.heap.push {cls:=.type "dict",data:=.dict #[]}) G:=by rw[e3];exact hsb₁
 have old:∀b o,l.heap.get? b=Φ o->G.get? b=Φ o:=λb o e=>(hsb.2 b (ne_of_lt (Β e))).trans (Λ _ e);have frees:∀y∈scope.names,y.2=.free->∃c,X.env.cells.lookup y.1=Φ c:=λy hy hk=>I2.ok.has y.1 (ok.frees y hy hk);have w:∀x c,(zf7 X.env.cells scope.names []).lookup x=Φ c->X.env.cells.lookup x=Φ c:=zf6 scope.names [] (λx c e=>by simp at e);generalize hcl:zf7 X.env.cells scope.names []=cl at *;have okX:(cxX XE X (capN X.N tgs js) scope cl l.heap.objs.size A l U (X.pn++a)).Ok:=
  {mod:=t.ok.mod,kind:=ok.kind,glob:=t.ok.glob,blt:=t.ok.blt,above:=le_refl _,
   inj:=λx y c e1 M=>t.ok.inj x y c (w x c e1) (w y c M),
   has:=λx hk=>by
    have hk':(scope.names.map (zb4 X.env)).lookup x=Φ .cell\/(scope.names.map (zb4 X.env)).lookup x=Φ .free:=by rw[<-zbw];exact hk
    rw[<-hcl];refine zdQ scope.names [] x frees (.inr ?_);rcases hk' with q|q;let⟨k0,m,_,e⟩:=zbI X.env x _ _ q;rcases e with e|⟨e,_⟩;subst e;exact absurd rfl (ok.nocell _ m);subst e;exact m;let⟨k0,m,_,e⟩:=zbI X.env x _ _ q;rcases e with e|⟨e,z⟩;subst e;exact m;exact absurd z (λh=>(by cases h)),
   cab:=λx c e=>absurd e Κ,hd:=t.ok.hd,frames:=t.ok.frames,stk:=.inl rfl,
   exf:=λb f=>⟨ne_of_lt (by
    let⟨o,ho,_⟩:=T.obj 0 _ st2 b f;rw[sz3,<-hp];exact ϡ (Β ho)),λx c e=>(f2 b f).2.2.2.2.1 x c (w x c e)⟩,
   bs:=t.bs,bsz:=le_trans t.ok.bsz t.sz,
   noex:=λb o e f=>by rcases(f2 b f).2.2.2.1 with z|z;exact t.ok.noex b o e z;exact absurd (lt_of_lt_of_le (Β e) (le_trans t.ok.bsz z)) (lt_irrefl _),
   exfs:=λb f hx=>by rcases mem_cons.mp (t.stkSub b hx) with z|z;exact(f2 b f).2.1 z;exact(f2 b f).2.2.1 z,
   funs:=t.stack,frf:=t.stkFree}
 have I4:Inv (cxX XE X (capN X.N tgs js) scope cl l.heap.objs.size A l U (X.pn++a)) [] (csl tgs.length js σ) U {l with heap:=G}:=
  {ok:=okX,os:=rfl,bare:=t.bare,base:=Un.kept old,
   loc:=⟨_,hns,λi x v e1 M e3=>by
    have M:(List.replicate tgs.length Ψ++js.map λj=>(σ[j]?).join)[i]?=Φ (Φ v):=M;by_cases hi:i<tgs.length;rw[getElem?_append_left (by rw[length_replicate];exact hi),List.getElem?_replicate,if_pos hi]at M;cases M;rw[getElem?_append_right (by lia),getElem?_map]at e1;rw[getElem?_append_right (by rw[length_replicate];lia),length_replicate,getElem?_map]at M;cases hj:js[i-tgs.length]? with
    |none=>rw[hj]at e1;exact nS e1
    |some j=>
     rw[hj]at e1 M;have e1:X.N.getD j ""=x:=Option.some.inj e1;have M:(σ[j]?).join=Φ v:=Option.some.inj M;have hjm:j∈js:=mem_of_getElem? hj;let⟨hfr,hjl⟩:=ok.caps j hjm;rw[e1]at hfr;have hNj:X.N[j]?=Φ x:=by rw[Η hjl];rw[List.getD_eq_getElem?_getD,Η hjl]at e1;exact congrArg Φ e1
     have hσ:σ[j]?=Φ (Φ v):=by
      cases q:σ[j]? with
      |none=>rw[q]at M;exact nS M
      |some o=>rw[q]at M;have M:o=Φ v:=M;rw[M]
     have hmem:(x,NameKind.free)∈scope.names:=by let⟨l1,l2,h3,_⟩:=List.lookup_eq_some_iff.mp hfr;rw[h3];simp
     have hkX:=ok.frees _ hmem rfl;have hvis:Vis X.env.scope x:=hkX.elim (λz=>.inr (.inl z)) λz=>.inr (.inr z);let⟨m,hn,hl⟩:=t.loc;let⟨u,r,lk⟩:=hl j x v hNj hσ hvis;refine⟨u,r,.inr ⟨?_,?_⟩⟩;have q:=zbx X.env x scope.names hfr;rw[<-zbw]at q;exact q.symm;rcases lk with⟨k,_⟩|⟨_,c,ec,z⟩
     . exfalso;have k:X.env.scope.names.lookup x=Φ .local:=k;rcases hkX with q|q<;>(rw[k]at q;cases q)
     obtain⟨c',hc'⟩:∃c',cl.lookup x=Φ c':=by rw[<-hcl];exact zdQ scope.names [] x frees (.inr hmem)
     have q:=w x c' hc';rw[ec]at q;cases q;let⟨o,ho,hd⟩:=z;exact⟨c,hc',o,old _ _ ho,hd⟩⟩,
   cell:=λx c e=>by let⟨v,o,ho,hd⟩:=t.cell x c (w x c e);exact⟨v,o,old _ _ ho,hd⟩,
   free:=t.fresh,
   freeC:=λx c e=>t.freeC x c (w x c e),
   pin:=λq hq=>by
    have hq:q∈X.pn++a:=by simpa using hq
    let⟨e,n,ne,nf,d⟩:=t.pin q hq;refine⟨old _ _ e,n,ne_of_lt (Β e),λz=>?_,d⟩;rcases mem_cons.mp (t.stkSub _ z) with z|z;exact ne z;exact nf z,
   hok:=t.hok.kept old,
   len:=by show(List.replicate tgs.length Ψ++js.map λj=>(σ[j]?).join).length=(tgs++js.map λj=>X.N.getD j "").length;simp}
 have stat:∀{H':Hp},(∀b∈A,H' b=Ψ)->∀b∈A,FpOk (cxX XE X (capN X.N tgs js) scope cl l.heap.objs.size A l U (X.pn++a)) [] H' b:=λhn b f=>
  ⟨hn b f,(okX.exf b f).1,okX.exfs b f,.inl f,(okX.exf b f).2,λq hq=>by
   have hq:q∈X.pn++a:=by simpa using hq
   exact(f2 b f).2.2.2.2.2 q hq⟩
 have fr3:∀b∈A,U b=Ψ:=λb f=>by let⟨o,ho,_⟩:=T.obj 0 _ st2 b f;rw[<-hH3,zaf (ne_of_lt (hp▸Β ho))];exact(f2 b f).1
 have st4:tn 0 G:=T.keep 0 _ _ st2 λb f o e=>old b o (by rw[e3];exact Λ _ e);have loop:codeAny (model X.prog X.w) X.A (.compLoop (.ListComp elt [⟨tg,iter,ifs,0⟩] scope pos) 0 (.ref it) (.ref p) (compEnvC scope cl l.heap.objs.size X.env)) (RR (.ref p) l.heap.objs.size) {l with heap:=G}:=by
  refine ziD (hE:=λe s' z=>err (zaG X (capN X.N tgs js) scope cl l.heap.objs.size A l U (X.pn++a)) p l.heap.objs.size rfl t.sz (λpins' B H' s' J=>?_) (by rw[sz3];exact ϖ _) (λq hq=>Β (t.pin q hq).1) e s' z) (λn s'=>∃i B H',Inv (cxX XE X (capN X.N tgs js) scope cl l.heap.objs.size A l U (X.pn++a)) [] B H' s'/\tn i s'.heap/\(∀b∈A,H' b=Ψ)/\W i n B H') ?_ m0 ⟨0,_,U,I4,st4,fr3,w0⟩;have hX:=t.call' J.os J.base J.hok J.bare λb f=>⟨(f2 b f).2.2.2.1,(f2 b f).2.1,(f2 b f).2.2.2.2.1,(f2 b f).2.2.2.2.2⟩;let⟨m,hm,_⟩:=J.loc;exact⟨hX,⟨m,hm⟩,J.free⟩;rintro n s4 ⟨i,σ4,H4,J4,st4,fr4,w4⟩;rcases turn i n σ4 H4 w4 with⟨stop,qn⟩|⟨go,N,hN,step⟩;refine thn (T.done (cxX XE X (capN X.N tgs js) scope cl l.heap.objs.size A l U (X.pn++a)) rfl rfl rfl hc i [] s4 σ4 H4 _ J4 (stat fr4) st4 stop) λr s5 ⟨hr,J5⟩=>.inl ⟨hr,?_⟩;have hX:Inv X a σ H4 s5:=t.call' J5.os J5.base J5.hok J5.bare λb f=>⟨(f2 b f).2.2.2.1,(f2 b f).2.1,(f2 b f).2.2.2.2.1,(f2 b f).2.2.2.2.2⟩;let⟨m,hm,_⟩:=J5.loc;exact fin p _ H4 s5 hX ⟨m,hm⟩ (by rw[sz3];exact ϖ _) J5.free qn
  refine thn (T.item (cxX XE X (capN X.N tgs js) scope cl l.heap.objs.size A l U (X.pn++a)) rfl rfl rfl hc i [] s4 σ4 H4 _ J4 (stat fr4) st4 go) λr s5 ⟨u,hr,h5⟩=>.inr ⟨u,hr,?_⟩;refine thn h5 λ_ s6 q'=>?_;let⟨x,H6,J6,r6,y6,st6,fr6⟩:=q';have J6':=J6.pinned (stat fr6) (T.obj _ _ st6);refine thn (hg _ _ _ _ _ _ _ s6 σ4 H6 x u _ J6' r6 (step x H6 y6)) λ_ s7 q'=>?_;let⟨L,H7,J7,q7⟩:=q';refine thn (ht _ _ _ _ _ _ _ s7 L H7 _ J7 q7) λok8 s8 q'=>?_;let⟨H8,J8,q8⟩:=q';have again:∀{s9:Ζ}{H9:Hp},Inv (cxX XE X (capN X.N tgs js) scope cl l.heap.objs.size A l U (X.pn++a)) ([]++zfD A s6.heap) L H9 s9->N L H9->
    ∃m,m<n/\∃i B H',Inv (cxX XE X (capN X.N tgs js) scope cl l.heap.objs.size A l U (X.pn++a)) [] B H' s9/\tn i s9.heap/\(∀b∈A,H' b=Ψ)/\W i m B H':=λ{s9 H9} J9 n9=>by
   let⟨m',hm,w9⟩:=hN L H9 n9;refine⟨m',hm,i+1,L,H9,J9.unpinned,T.keep _ _ _ st6 λb f o e=>(J9.pin (b,o) (mem_append_right _ (mem_append_right _ (zbW f e)))).1,λb f=>?_,w9⟩;let⟨o,e,d⟩:=T.obj _ _ st6 b f;exact(J9.pin (b,o) (mem_append_right _ (mem_append_right _ (zbW f e)))).2.1
  cases ok8 with|false=>exact again J8 q8| true=>refine thn (he _ _ _ _ _ _ _ s8 L H8 _ J8 q8) λy s9 q'=>?_;let⟨v,H9,J9,r9,I,ha,hl,q9⟩:=q';refine thn (zfF _ s9 L H9 (.ref p) [v] (.ref p) [y] (λ_ H=>N L H) J9 rfl (.cons r9 .nil) ⟨p,I,v,rfl,rfl,ha,hl,q9⟩) λ_ s10 q'=>?_;let⟨_,H10,J10,_,q10⟩:=q';exact again J10 q10
 exact codeAny_compStart_list loop (T.self _ 0 _ _ _ st4 loop)
def zeq(A:X.calm=Γ)(n:X.env.scope=sc)(ok:CompOk sc scope X.N js)(B:∀cl C h s H pn,PG (zaG X (capN X.N tgs js) scope cl C h s H pn) tg g)(G:∀cl C h s H pn,PTs (zaG X (capN X.N tgs js) scope cl C h s H pn) ifs tt)(I:∀cl C h s H pn,PE (zaG X (capN X.N tgs js) scope cl C h s H pn) elt te){r:Ξ->Addr->Result->Ζ->Prop}{Q:VK}(L:Inv X e t d o)(T:Turn X.prog X.w X.K tg J h it M)(q:M 0 o.heap)(O:∀b∈h,FpOk X e d b)(rd:∀p,d p=Ψ->∃W:Nat->Nat->St->Hp->Prop,(∃m,W 0 m (csl tgs.length js t) (upd d p (.lst [])))/\∀i m j H',W i m j H'->
   (J.stop i H'/\Q (.ref p) H')\/(J.go i H'/\∃N:St->Hp->Prop,(∀a d,N a d->∃u,u<m/\W (i+1) u a d)/\
    ∀x d,J.yld i H' x d->g x j d λa U=>tt a U λb w=>if b=Γ then te a w λv y=>∃c,y p=Φ (.lst c)/\c.length<sizeLine/\N a (upd y p (.lst (c++[v]))) else N a w))(fin:∀p C H' s',Inv X e t H' s'->(∃m,s'.heap.Ns C m)->o.heap.objs.size<C->H' C=Ψ->Q (.ref p) H'->r (.ref p) C (.ok .next) s'):
  wpAny (model X.prog X.w) X.A (newList []) (λc k=>wpAny (model X.prog X.w) X.A (newFunctionEnv scope X.env.globals (zf7 X.env.cells scope.names []) [] X.env.qual Ψ .none (Φ X.env)) (λf l=>codeAny (model X.prog X.w) X.A (.compStart (.ListComp elt [⟨tg,iter,ifs,0⟩] scope pos) 0 (.ref it) c {f with scope:=relabel scope X.env}) (r c f.locals) l) E k) E o:=
 zcf (λ_ _ _=>False) A n ok B G I L T q O rd fin λ_ _ _ _ _ _ _ _ _ _ z=>z.elim
def zlU(sc)(tgs)(js)(r:X.calm=Γ)(d:X.env.scope=sc)(ok:CompOk sc scope X.N js)(t:PI X tg iter wi)(u:∀cl C a s H pn,PG (zaG X (capN X.N tgs js) scope cl C a s H pn) tg g)(w:∀cl C a s H pn,PTs (zaG X (capN X.N tgs js) scope cl C a s H pn) ifs tt)(z:∀cl C a s H pn,PE (zaG X (capN X.N tgs js) scope cl C a s H pn) elt te)(hs:∀x,foldedSetIterable iter X.env x=pure x:=by intro _;rfl):
  PE X (.ListComp elt [⟨tg,iter,ifs,0⟩] scope pos) (zgn tgs.length js wi g tt te):=by
 intro f s A H Q I h;have frees:∀y∈scope.names,y.2=.free->∃c,X.env.cells.lookup y.1=Φ c:=λy B E=>I.ok.has y.1 (by
  have q:=ok.frees y B E;rw[<-d]at q;exact q)
 refine wpAny_comprehension_free rfl hs (zaO frees) ok.kind ok.locs (thn (t f s A H _ I h) λv s1 G=>thn G λL s2 M=>?_);let⟨it,a,tn,J,H2,e,i,T,k,N,O⟩:=M;subst e;refine zeq r d ok u w z i T k N O λp C U Y I' l j hn q=>?_;let⟨m,l⟩:=l;refine⟨m,l,λh' n=>⟨.ref p,U,?_,rfl,q⟩⟩;exact I'.turned (λb o hb e=>(n.2 b hb).trans e) hn (ne_of_gt (lt_trans i.lt j)) (.inr (le_trans i.sz (le_of_lt j))) (λx c e=>by let⟨v,o,ho,_⟩:=i.cell x c e;exact ne_of_lt (lt_trans (Β ho) j)) λq hq=>ne_of_lt (lt_trans (Β (i.pin q hq).1) j)
def zov(sc)(tgs)(js)(hN:X.N.Nodup)(r:X.N[i]?=Φ y)(t:Loc X.env.scope y)(hc:X.calm=Γ)(j:X.env.scope=sc)(ok:CompOk sc scope X.N js)(hi:PI X tg iter wi)(hg:∀cl C f s H pn,PG (zaG X (capN X.N tgs js) scope cl C f s H pn) tg g)(ht:∀cl C f s H pn,PTs (zaG X (capN X.N tgs js) scope cl C f s H pn) ifs tt)(he:∀cl C f s H pn,PE (zaG X (capN X.N tgs js) scope cl C f s H pn) elt te)(u:swapsWith (.ListComp elt [⟨tg,iter,ifs,0⟩] scope pos) (Φ (.Name y py)) spos.line X.env=pure Γ:=by rfl)(hs:∀x,foldedSetIterable iter X.env x=pure x:=by intro _;rfl)(hf:X.fn y=Γ\/X.env.scope.names.lookup y=Φ .local:=by first|exact .inl rfl|exact .inr rfl|assumption):
  PS X (.Assign [.Name y py] (.ListComp elt [⟨tg,iter,ifs,0⟩] scope pos) spos) (tAsg (zgn tgs.length js wi g tt te) (zfV i)):=by
 intro d s w H D I h;have frees:∀y∈scope.names,y.2=.free->∃c,X.env.cells.lookup y.1=Φ c:=λy t hk=>I.ok.has y.1 (by
  have q:=ok.frees y t hk;rw[<-j]at q;exact q)
 rw[exec_Assign_Name_used _ _ _ _ u];refine Θ (wpAny_standAt (Θ ?_));refine Θ (Τ (wpAny_comprehension_free rfl hs (zaO frees) ok.kind ok.locs
  (thn (hi d s w H _ I h) λv s1 h1=>thn h1 λitv s2 h2=>?_)) (λ_ A B=>Ω (Ω B)) λ_ _ e=>e)
 let⟨it,f,tn,J,H2,e,k,T,E,f2,rd⟩:=h2;subst e;refine zeq hc j ok hg ht he k T E f2 rd (Q:=λx H1=>zfV i x w H1 D.nx) λp C H' A I' G n hn q=>?_;let⟨m,G⟩:=G;have hL:=ne_of_gt (lt_trans k.lt n);have l:∀x c,X.env.cells.lookup x=Φ c->c≠C:=λx c e=>by let⟨v,o,ho,_⟩:=k.cell x c e;exact ne_of_lt (lt_trans (Β ho) n)
 refine wpAny_assign_Name (zdn I' hN r t (v:=.ref p) rfl (λL M N=>?_) hf);let⟨a,O,ha⟩:=N;have U:C≠a:=by rcases ha with z|z;rw[z];exact hL;exact λe=>l y a z e.symm
 exact⟨m,G.sameBut O U,λh' Y=>⟨w.set i (Φ (.ref p)),H',(M.turned (t':=L.toks) (it:=C) (λb o hb e=>(Y.2 b hb).trans e) hn hL (.inr (le_trans k.sz (le_of_lt n))) l λq B=>ne_of_lt (lt_trans (Β (k.pin q B).1) n)),q⟩⟩
end
structure FunV(K:PySem.W.Frag)(x qual:Str)(st:Stmt)(dV:Ξ)(f:Addr)(fd:FuncData):Prop where
 ex:∃(oc:Ξ) (od:Option Addr) (kV doc pm:Ξ) (an:Option Addr) (cdv ct:Ξ) (osl:Array (Option Ξ)),
  fd=fnOf x qual (zaz st) (zal st) (zac st) dV kV doc pm an cdv ct/\K.lookup f=Φ ⟨oc,od,.func fd,osl⟩/\codeIn K cdv qual=Γ
 kp:keepIn K (.ref f)=Γ
def zcO{K}{st}{e kV d g b ct}(l:K.lookup f=Φ ⟨j,m,.func (fnOf x a (zaz st) (zal st) (zac st) e kV d g i b ct),h⟩)(c:codeIn K b a=Γ)(k:keepIn K (.ref f)=Γ):FunV K x a st e f (fnOf x a (zaz st) (zal st) (zac st) e kV d g i b ct):=⟨⟨j,m,kV,d,g,i,b,ct,h,rfl,l,c⟩,k⟩
section
variable{P:Ο}{w:ϋ}{K:PySem.W.Frag}{mg:Str->Option Ξ}{base:Heap}
def FunV.ok{st}(F:FunV K x b st n f i)(S:FnScope N g (zac st))(len:∀vs H Q E,sp vs H Q E->vs.length=g.length)(c:∀(a:Ξ)(A:ϐ)(outer:List Env)(s:Ζ)(H:Hp)(vs:List V)(Q:VK)(E:XK),Room k (A.deeper (envOfC b (zac st) s.heap.objs.size f a))->sp vs H Q E->
   ∃t,PSs (cxOf CX0 P w K mg base N b (zac st) f a A outer s H E).nox (zal st) t/\t {nx:=λ_ H'=>Q .non H',rt:=Q} (start N vs) H):FnOk P w K mg base CX0 (k+1) f i g sp:=by
 let⟨o,p,kV,j,r,u,a,v,l,rfl,lk,d⟩:=F.ex;refine zpm lk d S len λA outer s H vs Q E m e=>?_;let⟨t,h,q⟩:=c a A outer s H vs Q E m e;exact⟨t,h.nox,q⟩
def FunV.binds{st}(F:FunV K x c st g f fd)(h:∀(kV a d:Ξ)(e:Option Addr)(b ct:Ξ)(us:List Ξ),us.length=ps.length->bindArgs (fnOf x c (zaz st) (zal st) (zac st) g kV a d e b ct) ⟨us,[]⟩=pure (ps.zip us)):Binds K fd ps []:=by
 let⟨k,l,kV,a,d,e,b,ct,i,rfl,lk,j⟩:=F.ex;exact .all (h kV a d e b ct)
structure Has(P:Ο)(w:ϋ)(K:PySem.W.Frag)(mg:Str->Option Ξ)(base:Heap)(k:Nat)(x:Str)(ps:List Str)(dvs:List V)(sp:Sp):Prop where
 ex:∃(f:Addr) (fd:FuncData) (ds:List Ξ),FnOk P w K mg base CX0 k f fd ps sp/\mg x=Φ (.ref f)/\keepIn K (.ref f)=Γ/\Binds K fd ps ds/\Vals dvs ds
end
def zrs(G:Has X.prog X.w X.K X.mg X.base k x o a sp)(d:Room k X.A)(g:PA X (e::es) t)(h:Gl X x:=by rfl)(b:(x==("__debug__":Str))=Δ:=by decide)(i:starEach (e::es) X.env=(Δ,eval e X.env)::starEach es X.env:=by rfl)(c:(backTo pos (starEach es X.env)).any (·.1)=Δ:=by rfl):
  PE X (.Call (.Name x p) (e::es) [] pos) (zeH sp a E0 t):=by
 let⟨f,q,r,F,j,l,m,n⟩:=G.ex;exact zoH F d h j l m n zgE g b i c
def zrr(G:Has X.prog X.w X.K X.mg X.base k x j a sp)(c:Room k X.A)(d:Gl X x:=by rfl)(b:(x==("__debug__":Str))=Δ:=by decide):PE X (.Call (.Name x p) [] [] pos) (zeH sp a E0 tNil):=by
 let⟨f,l,m,F,e,g,h,i⟩:=G.ex;exact zl1 F c d e g h i zgE b
mutual
noncomputable def Rep(H:Hp):PyData->V->Prop
 |.none,v=>v=.non|.bool b,v=>v=.bl b|.int i,v=>v=.int i|.str x,v=>v=.str x|.list ds,v=>∃a vs,v=.ref a/\H a=Φ (.lst vs)/\RepAll H ds vs|.tuple ds,v=>∃a vs,v=.ref a/\H a=Φ (.tup vs)/\RepAll H ds vs|.dict _,_=>False
noncomputable def RepAll(H:Hp):List PyData->List V->Prop
 | [],vs=>vs=[]|d::ds,vs=>∃v r,vs=v::r/\Rep H d v/\RepAll H ds r
end
mutual
noncomputable def imm:PyData->Bool
 |.none=>Γ|.bool _=>Γ|.int _=>Γ|.str _=>Γ|.list _=>Δ|.tuple ds=>zfS ds|.dict _=>Δ
noncomputable def zfS:List PyData->Bool
 | []=>Γ|d::ds=>imm d&&zfS ds
end
abbrev Tups(H H':Hp):Prop:=∀b a,H b=Φ (.tup a)->H' b=Φ (.tup a)
def Tups.refl(H):Tups H H:=λ_ _ h=>h
def Tups.trans(a:Tups H e)(b:Tups e f):Tups H f:=λc d h=>b c d (a c d h)
def Tups.upd{H:Hp}{p:Addr}{o:HO}(h:∀xs,H p≠Φ (.tup xs)):Tups H (upd H p o):=λb xs e=>by
 have hb:b≠p:=λz=>by subst z;exact h xs e
 rw[zaf hb];exact e
def Tups.upd_lst(h:H p=Φ (.lst xs)):Tups H (L2.upd H p o):=Tups.upd λa e=>by rw[h]at e;cases e
def Tups.upd_new(h:H p=Ψ):Tups H (L2.upd H p o):=Tups.upd λa e=>by rw[h]at e;exact nS e
mutual
theorem Rep.same{H H':Hp}(hs:Same H H'):∀{d:PyData}{v:V},Rep H d v->Rep H' d v
 |.none,_,h=>h|.bool _,_,h=>h|.int _,_,h=>h|.str _,_,h=>h| .list ds,v,h=>by let⟨a,vs,e,ha,r⟩:=h;exact⟨a,vs,e,hs _ _ ha,RepAll.same hs r⟩| .tuple ds,v,h=>by let⟨a,vs,e,ha,r⟩:=h;exact⟨a,vs,e,hs _ _ ha,RepAll.same hs r⟩|.dict _,_,h=>h
theorem RepAll.same{H H':Hp}(hs:Same H H'):∀{ds:List PyData}{vs:List V},RepAll H ds vs->RepAll H' ds vs
 | [],_,h=>h| d::ds,vs,h=>by let⟨v,r,e,h1,h2⟩:=h;exact⟨v,r,e,Rep.same hs h1,RepAll.same hs h2⟩
end
mutual
theorem Rep.tups{H H':Hp}(hs:Tups H H'):∀{d:PyData}{v:V},imm d=Γ->Rep H d v->Rep H' d v
 |.none,_,_,h=>h|.bool _,_,_,h=>h|.int _,_,_,h=>h|.str _,_,_,h=>h|.list ds,v,i,h=>by simp[imm]at i| .tuple ds,v,i,h=>by let⟨a,vs,e,ha,r⟩:=h;exact⟨a,vs,e,hs _ _ ha,RepAll.tups hs (by simpa[imm]using i) r⟩|.dict _,_,_,h=>h
theorem RepAll.tups{H H':Hp}(hs:Tups H H'):∀{ds:List PyData}{vs:List V},zfS ds=Γ->RepAll H ds vs->RepAll H' ds vs
 | [],_,_,h=>h| d::ds,vs,i,h=>by
  let⟨v,r,e,h1,h2⟩:=h;have i':imm d=Γ/\zfS ds=Γ:=by simpa[zfS]using i
  exact⟨v,r,e,Rep.tups hs i'.1 h1,RepAll.tups hs i'.2 h2⟩
end
mutual
theorem Rep.reads{X:Cx}{pins:List (Addr×Obj)}{σ:St}{H:Hp}{s:Ζ}(I:Inv X pins σ H s):∀(d:PyData)(v:V)(u:Ξ),Rep H d v->RelV v u->∃as,Reads s.heap u d as
 |.none,v,u,h,r=>by cases(show v=.non from h);cases(show u=Ξ.none from r);exact⟨_,.none⟩| .bool b,v,u,h,r=>by cases(show v=.bl b from h);cases(show u=Ξ.bool b from r);exact⟨_,.bool b⟩| .int i,v,u,h,r=>by cases(show v=.int i from h);let⟨t,rfl⟩:=(show ∃t,u=Ξ.int i t from r);exact⟨_,.int i t⟩| .str x,v,u,h,r=>by cases(show v=.str x from h);let⟨t,rfl⟩:=(show ∃t,u=Ξ.str x t from r);exact⟨_,.str x t⟩| .list ds,v,u,h,r=>by let⟨a,vs,rfl,ha,hr⟩:=h;cases(show u=Ξ.ref a from r);let⟨its,n,rv,e,_⟩:=I.lst ha;let⟨as,q⟩:=RepAll.reads I ds vs its hr rv;exact⟨_,.list e rfl rfl q⟩| .tuple ds,v,u,h,r=>by let⟨a,vs,rfl,ha,hr⟩:=h;cases(show u=Ξ.ref a from r);let⟨its,rv,⟨o,e1,e2,n,e3⟩,_⟩:=I.tuple (SqT.of (K:=X.K) ha);let⟨as,q⟩:=RepAll.reads I ds vs its hr rv;exact⟨_,.tuple e1 e2 e3 q⟩|.dict _,_,_,h,_=>False.elim h
theorem RepAll.reads{X:Cx}{pins:List (Addr×Obj)}{σ:St}{H:Hp}{s:Ζ}(I:Inv X pins σ H s):∀(ds:List PyData)(vs:List V)(us:List Ξ),RepAll H ds vs->Vals vs us->∃as,ReadsAll s.heap us ds as
 | [],vs,us,h,r=>by cases(show vs=[] from h);cases r;exact⟨_,.nil⟩| d::ds,vs,us,h,r=>by let⟨v,vr,rfl,h1,h2⟩:=h;cases r with| cons r1 r2=>let⟨as,q1⟩:=Rep.reads I d v _ h1 r1;let⟨bs,q2⟩:=RepAll.reads I ds vr _ h2 r2;exact⟨_,.cons q1 q2⟩
end
def eqv_int(i j):PyData.eqv (.int i) (.int j)=(i==j):=by simp[PyData.eqv]
section
variable{X:Cx}
abbrev rEqD(g:Bool->Bool):R2:=λx y H Q=>∃a b,Rep H a x/\Rep H b y/\a.canLay0=Γ/\b.canLay0=Γ/\min a.depth b.depth<=60/\Q (.bl (g (PyData.eqv a b))) H
def zrF(m:X.A.units+64<cLine):OpR X (compareOp .Eq) (rEqD id):=by intro a s n H x y v u Q I b c h;let⟨d,e,f,g,i,j,o,q⟩:=h;let⟨p,k⟩:=Rep.reads I d x v f b;let⟨r,l⟩:=Rep.reads I e y u g c;exact SeqAt.compareEq_reads k l i j (by lia) (zaw I q rfl)
def zrB(m:X.A.units+64<cLine):OpR X (compareOp .NotEq) (rEqD not):=by intro a s n H x y v u Q I b c h;let⟨d,e,f,g,i,j,o,q⟩:=h;let⟨p,k⟩:=Rep.reads I d x v f b;let⟨r,l⟩:=Rep.reads I e y u g c;exact SeqAt.compareNe_reads k l i j (by lia) (zaw I q rfl)
def zrE:OpR X (compareOp .Is) (λx y H Q=>∃a b,x=.bl a/\y=.bl b/\Q (.bl (a==b)) H):=by intro c s f H x y v u Q I d e h;let⟨a,b,rfl,rfl,q⟩:=h;cases d;cases e;refine wpAny_is_plain (by cases a<;>cases b<;>rfl) (zaw I q ?_);cases a<;>cases b<;>rfl
abbrev zcX(H:Hp):V->Option String
 |.non=>Φ "NoneType"|.bl _=>Φ "bool"|.int _=>Φ "int"|.str _=>Φ "str"
 |.ref a=>match H a with
  |some (.lst _)=>Φ "list"|some (.frz _ (.lst _))=>Φ "list"|some (.tup _)=>Φ "tuple"|some (.dK _)=>Φ "dict"|some (.dT _)=>Φ "dict"|_=>Ψ
 |_=>Ψ
def ziZ{K}(h:zcX H x=Φ a):TyOf K H x (.type a):=by
 cases x with
 |non=>cases h;exact .non|bl b=>cases h;exact .bl b|int i=>cases h;exact .int i|str y=>cases h;exact .str y|byt _=>exact nS h
 |flt _=>exact nS h
 |ty _=>exact nS h
 |ref p=>
  unfold zcX at h;cases e:H p with
  |none=>simp[e]at h| some o=>
   cases o with
   |lst d=>simp[e]at h;subst h;exact .lst e|tup d=>simp[e]at h;subst h;exact .tup e|dK c=>simp[e]at h;subst h;exact .dK e|dT c=>simp[e]at h;subst h;exact .dT e| frz f q=>cases q with|lst d=>simp[e]at h;subst h;exact .frz e|_=>simp[e]at h
   |_=>simp[e]at h
abbrev subT(a b:String):Bool:=a==b||(a=="bool"&&b=="int")
def zpa(K)(c:a∈["NoneType","bool","int","str","list","tuple","dict"])(d:b∈["bool","int","str","list","tuple","dict"]):kitOne K (.type a) (.type b)=Φ (subT a b):=by simp![mem_cons,not_mem_nil,or_false]at c d;rcases c with rfl|rfl|rfl|rfl|rfl|rfl|rfl<;>rcases d with rfl|rfl|rfl|rfl|rfl|rfl<;>rfl
def zh9(h:zcX H x=Φ a):a∈["NoneType","bool","int","str","list","tuple","dict"]:=by
 cases x with
 |non=>cases h;simp|bl b=>cases h;simp|int i=>cases h;simp|str y=>cases h;simp|byt _=>exact nS h
 |flt _=>exact nS h
 |ty _=>exact nS h
 |ref p=>unfold zcX at h;simp only at h;split at h<;>first|(cases h;simp)|exact nS h
def zgU:zbi X (.builtin "isinstance") (λxs H Q=>∃x c a,xs=[x,.ty c]/\zcX H x=Φ a/\c∈["bool","int","str","list","tuple","dict"]/\Q (.bl (subT a c)) H):=by intro b s k H xs l Q I r h;let⟨x,c,a,rfl,d,e,q⟩:=h;let⟨u,f,rfl,g,i⟩:=zny r;cases(show f=Ξ.type c from i);exact zki I g (ziZ d) (zpa X.K (zh9 d) e) λj=>⟨.bl (subT a c),H,I.tok j,rfl,q⟩
end
section
variable{X:Cx}(K:PySem.W.Frag)(hK:X.K=K)
include hK
end
def zsD:bootBuiltins "len"=Φ (.builtin "len"):=by decide +kernel
def zsG:bootBuiltins "abs"=Φ (.builtin "abs"):=by decide +kernel
def zsF:bootBuiltins "all"=Φ (.builtin "all"):=by decide +kernel
def zbB:bootBuiltins "isinstance"=Φ (.builtin "isinstance"):=by decide +kernel
def zsE:bootBuiltins "int"=Φ (.type "int"):=by decide +kernel
def zpE:bootBuiltins "bool"=Φ (.type "bool"):=by decide +kernel
def zsA:bootBuiltins "str"=Φ (.type "str"):=by decide +kernel
def zgY:bootBuiltins "list"=Φ (.type "list"):=by decide +kernel
def zfh:bootBuiltins "tuple"=Φ (.type "tuple"):=by decide +kernel
def zpD:bootBuiltins "dict"=Φ (.type "dict"):=by decide +kernel
def zsB:bootBuiltins "set"=Φ (.type "set"):=by decide +kernel
def znl{K}{st}(n)(u:j.length=n+ds.length)(F:FunV K x c st (.ref d) f l)(e:K.lookup d=Φ ⟨xc,v,.seq items w,xs⟩)(h:∀(kV a g:Ξ)(i:Option Addr)(b ct:Ξ)(us:List Ξ),us.length=n->∃k,bindArgs (fnOf x c (zaz st) (zal st) (zac st) (.ref d) kV a g i b ct) ⟨us,[]⟩=seqItems? (.ref d)>>=k/\k (Φ items)=pure (j.zip (us++ds))):
  Binds K l j ds:=by
 let⟨y,z,kV,a,g,i,b,ct,m,rfl,lk,o⟩:=F.ex;intro s us p q;let⟨k,r,t⟩:=h kV a g i b ct us (by rw[length_append]at q;lia);exact BindsTo.of_defaults rfl (p _ _ e) rfl r t
end L2
namespace R
@[reducible]def K3:=Int×List Int×Int
abbrev lexZ:List Int->List Int->Bool
 | [],[]=>Δ| [],_::_=>Γ|_::_,[]=>Δ|x::a,y::b=>if x=y then lexZ a b else decide (x<y)
def zdE(x y)(xs ys):lexZ (x::xs) (y::ys)=if x=y then lexZ xs ys else decide (x<y):=rfl
def zcL:∀l:List Int,lexZ l l=Δ
 | []=>rfl|x::l=>by rw[zdE,if_pos rfl];exact zcL l
def zfJ:∀{a b c:List Int},lexZ a b=Γ->lexZ b c=Γ->lexZ a c=Γ
 | [],[],c,h,k=>nB h| [],y::b,[],h,k=>nB k| [],y::b,z::c,h,k=>rfl|x::a,[],c,h,k=>nB h|x::a,y::b,[],h,k=>nB k| x::a,y::b,z::c,h,k=>by rw[zdE]at h k⊢;split at h;rename_i e;split at k;rename_i d;rw[if_pos (e.trans d)];exact zfJ h k;rw[if_neg (by lia)];exact decide_eq_true (by lia);split at k;rw[if_neg (by lia)];exact decide_eq_true (by lia);rw[if_neg (by lia)];exact decide_eq_true (by lia)
abbrev Lt3(a b:K3):Prop:=a.1<b.1\/(a.1=b.1/\(lexZ a.2.1 b.2.1=Γ\/(a.2.1=b.2.1/\a.2.2<b.2.2)))
noncomputable instance(a b:K3):Decidable (Lt3 a b):=by unfold Lt3;infer_instance
def zeo(a):¬Lt3 a a:=by unfold Lt3;rw[zcL];simp
def zj0(h:Lt3 a b)(k:Lt3 b c):Lt3 a c:=by rcases h with h|⟨g,e⟩;rcases k with k|⟨f,d⟩;exact .inl (by lia);exact .inl (by lia);rcases k with k|⟨f,d⟩;exact .inl (by lia);refine .inr ⟨g.trans f,?_⟩;rcases e with e|⟨e,j⟩;rcases d with d|⟨d,i⟩;exact .inl (zfJ e d);exact .inl (d▸e);rcases d with d|⟨d,i⟩;exact .inl (e▸d);exact .inr ⟨e.trans d,by lia⟩
end R
namespace R
open PySem PySem.Spec PyProof.Rows L2
section
variable{prog:Ο}{w:ϋ}{A:ϐ}{E:Ξ->Ζ->Prop}{s:Ζ}
abbrev IsTri(prog:Ο)(w:ϋ)(h:Heap)(k:K3)(a:Addr):Prop:=∃o t u b n,h.get? a=Φ o/\o.cls=.type "tuple"/\o.data=.seq #[.int k.1 t,.ref b,.int k.2.2 u] n/\IsTupleKey (zat prog w) h (k.2.1.map Sum.inl) b
def zpe{x y:List Int}(h:(x.map Sum.inl:List Key)=y.map Sum.inl):x=y:=(List.map_inj_right (λa b e=>Sum.inl.inj e)).mp h
def IsTri.typeIs(x:IsTri prog w s.heap k a):s.TypeIs (.ref a) "tuple":=by let⟨o,_,_,_,_,b,c,_⟩:=x;exact⟨o,b,c⟩
end
end R
namespace R
open PySem (Str PyData Operator CmpOp)
set_option genInjectivity true in
inductive D where
 |non|bl (b:Bool)|int (i:Int)|str (x:Str)|tup (ds:List D)|ref (l:Nat)
 |fix (ds:List D)
inductive MO where
 |lst (ds:List D)|dic (kvs:List (Int×D))|ins (c:Nat) (fs:List (Str×D))
 |exc (c:Nat) (fs:List (Str×D))
structure St where
 frz:List MO
 new:List MO
 lk:List Nat
set_option genInjectivity true in
inductive Out(α:Type) where
 |ok (a:α) (S:St)
 |err (d:D) (S:St)
 |bad
abbrev Out.bind{b c:Type}(o:Out b)(f:b->St->Out c):Out c:=match o with|.ok a S=>f a S|.err d S=>.err d S|.bad=>.bad
abbrev Out.ne{b:Type}:Out b->Out b
 |.ok a S=>.ok a S|_=>.bad
abbrev lift{b:Type}(S:St):Option b->Out b
 |some a=>.ok a S|none=>.bad
namespace St
abbrev get(S:St)(l:Nat):Option MO:=if l<S.frz.length then S.frz[l]? else S.new[l-S.frz.length]?
abbrev len(S:St):Nat:=S.frz.length+S.new.length
abbrev push(S:St)(o:MO):St:={S with new:=S.new++[o]}
abbrev put(S:St)(l:Nat)(o:MO):Option St:=if l<S.frz.length then Ψ else if S.lk.contains l then Ψ else Φ {S with new:=S.new.set (l-S.frz.length) o}
abbrev enter(S:St):St:=⟨S.frz++S.new,[],[]⟩
end St
abbrev lay(S:St)(ds:List D):Out D:=if ds.length<=16777216 then .ok (.ref S.len) (S.push (.lst ds)) else .bad
abbrev wr(S:St)(l:Nat)(ds:List D)(d:D):Out D:=if ds.length<=16777216 then(match S.put l (.lst ds) with|some a=>.ok d a|none=>.bad) else .bad
abbrev pd(S:St):Nat->D->Option PyData
 |_,.non=>Φ .none|_,.bl b=>Φ (.bool b)|_,.int i=>Φ (.int i)|_,.str x=>if PySem.PyData.strOk x then Φ (.str x) else Ψ|n+1,.tup a=>(a.mapM (pd S n)).map PyData.tuple
 |n+1,.ref l=>match S.get l with
  |some (.lst a)=>(a.mapM (pd S n)).map PyData.list|_=>Ψ
 |_,.fix _=>Ψ|0,_=>Ψ
mutual
noncomputable def flat(n:Nat):D->Bool
 |.tup ds=>flats n ds|.ref l=>decide (l<n)|.fix ds=>flats n ds|_=>Γ
noncomputable def flats(n:Nat):List D->Bool
 | []=>Γ|d::ds=>flat n d&&flats n ds
end
abbrev zbe(S:St):D->Option (List D)
 |.tup a=>Φ a|.fix a=>Φ a
 |.ref l=>match S.get l with
  |some (.lst a)=>Φ a|_=>Ψ
 |_=>Ψ
abbrev lkOf(S:St):D->List Nat
 |.ref l=>[l]|_=>[]
abbrev tru(S:St):D->Option Bool
 |.non=>Φ Δ|.bl b=>Φ b|.int i=>Φ (i != 0)|.tup a=>Φ (!a.isEmpty)
 |.ref l=>match S.get l with
  |some (.lst a)=>Φ (!a.isEmpty)|_=>Ψ
 |_=>Ψ
abbrev tyOf(S:St):D->Option String
 |.non=>Φ "NoneType"|.bl _=>Φ "bool"|.int _=>Φ "int"|.str _=>Φ "str"|.tup _=>Φ "tuple"
 |.ref l=>match S.get l with
  |some (.lst _)=>Φ "list"|some (.dic _)=>Φ "dict"|_=>Ψ
 |.fix _=>Ψ
abbrev ixN(n:Nat)(i:Int):Option Nat:=if 0<=i then(if i<n then Φ i.toNat else Ψ) else if -(n:Int)<=i then Φ (i+n).toNat else Ψ
abbrev atI{a:Type}(xs:List a)(i:Int):Option a:=(ixN xs.length i).bind λj=>xs[j]?
abbrev sIx(n d:Nat):Option Int->Nat
 |none=>d|some i=>if i<0 then(i+n).toNat else min i.toNat n
abbrev zbz:D->Option Int
 |.int i=>Φ i|_=>Ψ
abbrev zoR(i j:Int):Bool:=decide (-(2^64)<i/\i<2^64)||decide (-(2^64)<j/\j<2^64)
abbrev binI(S:St)(op:Operator)(i j:Int):Out D:=match op with|.Add=>.ok (.int (i+j)) S|.Sub=>.ok (.int (i-j)) S|.Mult=>if zoR i j then .ok (.int (i*j)) S else .bad|.FloorDiv=>if 0<j/\j<1073741824 then .ok (.int (i/j)) S else .bad|.Mod=>if 0<j then .ok (.int (i%j)) S else .bad|.Pow=>if 0<=j/\j<=1000000/\-18446744073709551616<i/\i<18446744073709551616 then .ok (.int (i^j.toNat)) S else .bad|_=>.bad
abbrev binD(S:St)(op:Operator)(x y:D):Out D:=match x,y with|.int i,.int j=>binI S op i j|.tup c,.tup d=>(match op with|.Add=>if c.length+d.length<=16777216 then .ok (.tup (c++d)) S else .bad|_=>.bad)|.ref a,.ref b=>(match op,S.get a,S.get b with|.Add,Φ (.lst c),Φ (.lst d)=>lay S (c++d)|_,_,_=>.bad)|_,_=>.bad
abbrev eqD(S:St)(x y:D):Option Bool:=(pd S 60 x).bind λa=>(pd S 60 y).map λb=>PyData.eqv a b
abbrev inD(S:St)(x:D)(ys:List D):Option Bool:=(ys.mapM λz=>eqD S z x).map λa=>a.any id
abbrev zbr(ds:List D):Option (List Int):=ds.mapM zbz
abbrev cmpI(op:CmpOp)(i j:Int):Option Bool:=match op with|.Eq=>Φ (decide (i=j))|.NotEq=>Φ (!decide (i=j))|.Lt=>Φ (decide (i<j))|.LtE=>Φ (decide (i<=j))|.Gt=>Φ (decide (j<i))|.GtE=>Φ (decide (j<=i))|_=>Ψ
abbrev zpd:D->Bool|.non=>Γ|_=>Δ
abbrev zea:D->Option K3
 |.tup [_,.tup a,.int b,_]=>(zbr a).map λp=>(0,p,b)|_=>Ψ
abbrev zfK(S:St)(x:D):Option (List D×List K3):=match x with|.ref p=>(match S.get p with|some (.lst a)=>(a.mapM zea).map λb=>(a,b)|_=>Ψ)|_=>Ψ
abbrev cmpO(S:St)(op:CmpOp)(x y:D):Option Bool:=match op with|.Eq=>eqD S x y|.NotEq=>(eqD S x y).map (!·)|.Is=>(match y with|.non=>Φ (zpd x)|.bl b=>(match x with|.bl a=>Φ (a==b)|_=>Ψ)|_=>Ψ)|.IsNot=>(match y with|.non=>Φ (!zpd x)|_=>Ψ)|.In=>(zbe S y).bind λc=>inD S x c|.NotIn=>((zbe S y).bind λc=>inD S x c).map (!·)|_=>Ψ
abbrev cmpD(S:St)(op:CmpOp)(x y:D):Option Bool:=match x,y with|.int i,.int j=>cmpI op i j|_,_=>cmpO S op x y
inductive Bi where
 |len
 |abs
 |isin (t:String)
inductive Mt where
 |append
abbrev bi(S:St):Bi->List D->Out D
 |.len,[x]=>(match x with
  |.tup b=>.ok (.int b.length) S|.fix b=>.ok (.int b.length) S|.ref l=>(match S.get l with|some (.lst b)=>.ok (.int b.length) S|some (.dic c)=>.ok (.int c.length) S|_=>.bad)|_=>.bad)
 |.abs,[.int i]=>.ok (.int (if i<0 then -i else i)) S|.isin t,[x]=>(match tyOf S x with|some a=>.ok (.bl (a==t||(a=="bool"&&t=="int"))) S|none=>.bad)|_,_=>.bad
abbrev isL(S:St):D->Bool
 |.ref l=>(match S.get l with|some (.lst _)=>Γ|_=>Δ)|_=>Δ
abbrev mt(S:St):Mt->D->List D->Out D
 |.append,.ref l,[y]=>(match S.get l with|some (.lst a)=>wr S l (a++[y]) .non|_=>.bad)|_,_,_=>.bad
abbrev putI:List (Int×D)->Int->D->List (Int×D)
 | [],k,v=>[(k,v)]|(j,d)::r,k,v=>if j=k then(j,v)::r else(j,d)::putI r k v
abbrev dicI(S:St)(x:D):Option (List Int):=match x with|.ref p=>(match S.get p with|some (.dic a)=>Φ (a.map (·.1))|_=>Ψ)|_=>Ψ
abbrev dPut(S:St)(x y v:D):Option St:=match x with
 |.ref l=>(match S.get l with
  |some (.dic a)=>(zbz y).bind λk=>if a.length<16777216 then S.put l (.dic (putI a k v)) else Ψ|some (.lst b)=>(zbz y).bind λi=>(ixN b.length i).bind λj=>S.put l (.lst (b.set j v))|_=>Ψ)
 |_=>Ψ
abbrev lsts(S:St)(x y:D):Option (Nat×List D×List D):=match x,y with|.ref p,.ref r=>(match S.get p,S.get r with|some (.lst a),Φ (.lst b)=>Φ (p,a,b)|_,_=>Ψ)|_,_=>Ψ
abbrev valI(a:List (Int×D))(k:Int):Option D:=(a.find? λb=>decide (b.1=k)).map (·.2)
abbrev isDi(S:St):D->Bool
 |.ref l=>(match S.get l with|some (.dic _)=>Γ|_=>Δ)|_=>Δ
abbrev zf4(S:St)(x y:D):Option (Option D):=match x with|.ref l=>(match S.get l with|some (.dic a)=>(zbz y).map λk=>valI a k|_=>Ψ)|_=>Ψ
abbrev ze8(S:St)(x y v:D):Option (D×St):=match zf4 S x y with|some (Φ u)=>Φ (u,S)|some Ψ=>(dPut S x y v).map λT=>(v,T)|none=>Ψ
abbrev zbo(S:St):D->Option (Nat×List (Str×D))
 |.ref l=>(match S.get l with|some (.ins c a)=>Φ (c,a)|_=>Ψ)|_=>Ψ
abbrev zjC(f:Str)(v:D):List (Str×D)->List (Str×D)
 | []=>[(f,v)]|(g,x)::r=>if g=f then(g,v)::r else(g,x)::zjC f v r
abbrev zb6(S:St)(x:D)(f:Str)(v:D):Option St:=match x with|.ref l=>(match S.get l with|some (.ins c a)=>if a.length<1000 then S.put l (.ins c (zjC f v a)) else Ψ|_=>Ψ)|_=>Ψ
abbrev zc9(S:St):D->Option (Nat×List (Str×D))
 |.ref l=>(match S.get l with|some (.exc c a)=>Φ (c,a)|_=>Ψ)|_=>Ψ
abbrev zkl:D->Bool|.non=>Γ|_=>Δ
mutual
inductive CE where
 |loc (i:Nat)
 |con (d:D)
 |tst (a:CE)
 |bin (op:Operator) (a b:CE)
 |neg (a:CE)
 |nt (a:CE)
 |cmp (op:CmpOp) (a b:CE)
 |cmp2 (op op':CmpOp) (a b c:CE)
 |and (a b:CE)
 |or (a b:CE)
 |ite (c a b:CE)
 |tup (es:CEs)
 |lst (es:CEs)
 |dnew
 |srtK (a:CE)
 |dgetI (a b c:CE)
 |dsetI (a b c:CE)
 |dic1 (a b:CE)
 |dsrt (a:CE)
 |extv (a b:CE)
 |ix (a b:CE)
 |fld (a:CE) (f:Str)
 |mk (c f:Nat) (x:Str) (j:Nat) (es:CEs)
 |meth (m:Str) (tb:List (Nat×Nat)) (o:CE) (es:CEs)
 |callC (f:Nat) (x m:Str) (es:CEs)
 |fldX (a:CE) (f:Str)
 |iscX (cs:List Nat) (x:Str) (a:CE)
 |rep (a b:CE)
 |call (f j:Nat) (es:CEs)
 |callW (f j:Nat) (es:CEs)
 |bi (b:Bi) (es:CEs)
 |mt (m:Mt) (o:CE) (es:CEs)
 |mkL (l:CL)
 |mkT (l:CL)
 |all (l:CL)
 |sset (a:CE)
 |min1 (a:CE)
inductive CEs where
 |nil
 |cons (e:CE) (r:CEs)
inductive CL where
 |val (e:CE)
 |rng1 (a:CE)
 |rng2 (a b:CE)
 |enum (a:CE)
 |comp (nt:Nat) (js:List Nat) (g:List Nat) (it:CL) (c:CE) (e:CE)
end
inductive XE where
 |val (e:CE)
 |call (f:Nat) (es:CEs)
 |meth (m:Str) (tb:List (Nat×Nat)) (o:CE) (es:CEs)
 |ix (a:CE) (b:XE)
 |on (o:XE) (m:Str) (tb:List (Nat×Nat))
 |ite (c:CE) (a b:XE)
inductive TrB where
 |run (f:Nat) (es:CEs)
 |asg (i f:Nat) (es:CEs)
 |ite (c:CE) (a b:TrB)
 |mk (c f:Nat) (x:Str) (j:Nat) (es:CEs)
 |comp (i nt:Nat) (js g:List Nat) (it:CL) (f:Nat) (es:CEs)
 |asgX (i:Nat) (x:XE)
inductive CS where
 |nil
 |stop
 |asg (i:Nat) (e:CE) (r:CS)
 |asgT (g:List Nat) (e:CE) (r:CS)
 |setIx (a b e:CE) (r:CS)
 |setF (a:CE) (f:Str) (e:CE) (r:CS)
 |ifS (c:CE) (t u:CS) (r:CS)
 |forS (g:List Nat) (l:CL) (b:CS) (r:CS)
 |ret (e:CE) (r:CS)
 |retX (x:XE) (r:CS)
 |expr (e:CE) (r:CS)
 |rais (c:Nat) (x f:Str) (a:CE)
 |tryS (b:TrB) (x:Str) (ie ix:Nat) (r:CS)
 |blk (b:TrB) (r:CS)
@[reducible]def Ev:=List (Option D)
abbrev zeA:List Nat->List D->Ev->Ev
 |i::b,d::c,a=>zeA b c (a.set i (Φ d))|_,_,a=>a
abbrev asgG(g:List Nat)(x:D)(δ:Ev):Option Ev:=match g with| [i]=>Φ (δ.set i (Φ x))|is=>(match x with|.tup a=>if a.length=is.length then Φ (zeA is a δ) else Ψ|_=>Ψ)
abbrev zd7(x y:D):D:=.tup [x,y]
abbrev zb9(S:St):D->Option (List D×List Nat)
 |.ref l=>(match S.get l with|some (.lst a)=>Φ (a.mapIdx λi d=>zd7 (.int i) d,[l])|_=>Ψ)|_=>Ψ
@[reducible]def CF:=Nat->List D->St->Out D
abbrev zbm(S:St)(d:D)(T:St):Out D:=
 if flat S.len d then .ok d S else
 let a:Out D:=.ok d ⟨S.frz,S.new++T.new,S.lk⟩
 match d with
  |.ref l=>(match T.get l with
   |some (.lst c)=>if flats S.len c then .ok (.ref S.len) (S.push (.lst c)) else a|some (.dic b)=>if flats S.len (b.map (·.2)) then .ok (.ref S.len) (S.push (.dic b)) else a|_=>a)
  |_=>a
abbrev zka(S:St)(d:D)(T:St):Out (List D):=match d with|.ref l=>if l<S.len then .bad else(match T.get l with|some (.lst a)=>if flats S.len a then .ok a S else .bad|_=>.bad)|_=>.bad
@[irreducible]noncomputable def app(cf:CF)(f:Nat)(ds:List D)(S:St):Out D:=(cf f ds S.enter).bind λd T=>zbm S d T
@[irreducible]noncomputable def appL(cf:CF)(f:Nat)(ds:List D)(S:St):Out (List D):=(cf f ds S.enter).bind λd T=>zka S d T
@[irreducible]noncomputable def appW(cf:CF)(f:Nat)(ds:List D)(S:St):Out D:=cf f ds S
abbrev csl(a:Nat)(b:List Nat)(δ:Ev):Ev:=List.replicate a Ψ++b.map λj=>(δ[j]?).join
abbrev za3(g:List Nat)(c:Ev->St->Out Bool)(e:Ev->St->Out D):List D->Ev->St->Out (List D)
 | [],_,S=>.ok [] S| x::f,i,S=>match asgG g x i with|none=>.bad|some a=>(c a S).bind λb h=>if b then(e a h).bind λd j=>(za3 g c e f a j).bind λk l=>.ok (d::k) l else za3 g c e f a h
abbrev za4{b:Type}(ls:List Nat)(S:St)(f:St->Out b):Out b:=(f {S with lk:=ls++S.lk}).bind λa c=>.ok a {c with lk:=S.lk}
abbrev zdW:D->Option Bool
 |.bl b=>Φ b|_=>Ψ
abbrev allD(ds:List D):Option Bool:=(ds.mapM zdW).map λa=>a.all id
abbrev insZ(x:Int):List Int->List Int
 | []=>[x]|y::l=>if x<=y then x::y::l else y::insZ x l
abbrev zaq:List Int->List Int
 | []=>[]|x::l=>insZ x (zaq l)
abbrev minZ:List Int->Option Int
 | []=>Ψ|x::l=>match minZ l with|none=>Φ x|some k=>Φ (if x<=k then x else k)
abbrev lstI(S:St)(x:D):Option (List Int):=match x with|.ref p=>(match S.get p with|some (.lst a)=>zbr a|_=>Ψ)|_=>Ψ
abbrev dedup(xs:List Int):List Int:=xs.foldl (λa x=>if a.contains x then a else a++[x]) []
section
variable(cf:CF)
mutual
noncomputable def evE(e₀:CE)(δ:Ev)(S:St):Out D:=match e₀ with
 |.loc i=>lift S (δ[i]?).join|.con d=>.ok d S|.tst _=>.bad|.bin op a b=>(evE a δ S).bind λx S1=>(evE b δ S1).bind λy S2=>binD S2 op x y|.neg a=>(evE a δ S).bind λx S1=>match x with|.int i=>.ok (.int (-i)) S1|_=>.bad
 |.nt a=>(evE a δ S).bind λx S1=>match x with|.bl b=>.ok (.bl (!b)) S1|_=>.bad
 |.cmp op a b=>(evE a δ S).bind λx S1=>(evE b δ S1).bind λy S2=>(lift S2 (cmpD S2 op x y)).bind λk S3=>.ok (.bl k) S3|.cmp2 op op' a b c=>(evE a δ S).bind λx S1=>(evE b δ S1).bind λy S2=>(lift S2 (cmpD S2 op x y)).bind λk S3=>if k then(evE c δ S3).bind λz S4=>(lift S4 (cmpD S4 op' y z)).bind λk' S5=>.ok (.bl k') S5 else .ok (.bl Δ) S3|.and a b=>(evE a δ S).bind λx S1=>match x with|.bl k=>if k then evE b δ S1 else .ok (.bl Δ) S1|_=>.bad
 |.or a b=>(evE a δ S).bind λx S1=>match x with|.bl k=>if k then .ok (.bl Γ) S1 else evE b δ S1|_=>.bad
 |.ite c a b=>(evT c δ S).bind λk S1=>if k then evE a δ S1 else evE b δ S1|.tup es=>(evEs es δ S).bind λds S1=>if ds.length<=16777216 then .ok (.tup ds) S1 else .bad|.lst es=>(evEs es δ S).bind λds S1=>lay S1 ds|.dnew=>.ok (.ref S.len) (S.push (.dic []))|.srtK a=>(evE a δ S).bind λx S1=>(lift S1 (zfK S1 x)).bind λq S2=>if q.2.length<64/\q.2.Pairwise Lt3 then lay S2 q.1 else .bad|.dic1 a b=>(evE a δ S).bind λx S1=>(evE b δ S1).bind λv S2=>(lift S2 (zbz x)).bind λk S3=>.ok (.ref S3.len) (S3.push (.dic [(k,v)]))|.dsrt a=>(evE a δ S).bind λx S1=>(lift S1 (dicI S1 x)).bind λis S2=>if is.length<64 then lay S2 ((zaq is).map .int) else .bad|.dgetI a b c=>(evE a δ S).bind λx S1=>if isDi S1 x then(evE b δ S1).bind λy S2=>(evE c δ S2).bind λz S3=>(lift S3 (zf4 S3 x y)).bind λo S4=>.ok (o.getD z) S4 else .bad|.dsetI a b c=>(evE a δ S).bind λx S1=>if isDi S1 x then(evE b δ S1).bind λy S2=>(evE c δ S2).bind λz S3=>(lift S3 (ze8 S3 x y z)).bind λo _=>.ok o.1 o.2 else .bad|.extv a b=>(evE a δ S).bind λx S1=>if isL S1 x then(evE b δ S1).bind λy S2=>(lift S2 (lsts S2 x y)).bind λo S3=>wr S3 o.1 (o.2.1++o.2.2) .non else .bad|.fld a f=>(evE a δ S).bind λx S1=>lift S1 ((zbo S1 x).bind λp=>p.2.lookup f)|.mk c f _ j es=>(evEs es δ S).bind λds S1=>(appW cf f (.ref S1.len::(ds++List.replicate j .non)) (S1.push (.ins c []))).bind λd S2=>if zkl d then .ok (.ref S1.len) S2 else .bad|.meth m tb o es=>(evE o δ S).bind λx S1=>(lift S1 (zbo S1 x)).bind λp S1=>(lift S1 (tb.lookup p.1)).bind λf S1=>if(p.2.lookup m).isNone then(evEs es δ S1).bind λds S2=>appW cf f (x::ds) S2 else .bad|.callC f _ _ es=>(evEs es δ S).bind λds S1=>appW cf f ds S1|.fldX a f=>(evE a δ S).bind λx S1=>lift S1 ((zc9 S1 x).bind λp=>p.2.lookup f)|.iscX cs _ a=>(evE a δ S).bind λx S1=>(lift S1 (zc9 S1 x)).bind λp S1=>.ok (.bl (cs.contains p.1)) S1|.ix a b=>(evE a δ S).bind λx S1=>(evE b δ S1).bind λy S2=>match zbe S2 x,y with|some ds,.int i=>lift S2 (atI ds i)|_,_=>.bad
 |.rep a b=>(evE a δ S).bind λx S1=>(evE b δ S1).bind λy S2=>match x,y with
  |.ref p,.int k=>if -(2^63)<=k/\k<2^63 then(match S2.get p with|some (.lst ds)=>lay S2 (List.replicate k.toNat ds).flatten|_=>.bad) else .bad|_,_=>.bad
 |.call f j es=>(evEs es δ S).bind λds S1=>app cf f (ds++List.replicate j .non) S1|.callW f j es=>(evEs es δ S).bind λds S1=>appW cf f (ds++List.replicate j .non) S1|.bi b es=>(evEs es δ S).bind λds S1=>R.bi S1 b ds|.mt m o es=>(evE o δ S).bind λx S1=>if isL S1 x then(evEs es δ S1).bind λds S2=>R.mt S2 m x ds else .bad|.mkL l=>(evL l δ S).bind λr S1=>lay S1 r.1|.mkT l=>(evL l δ S).bind λr S1=>if r.1.length<=16777216 then .ok (.tup r.1) S1 else .bad|.all l=>(evL l δ S).bind λr S1=>(lift S1 (allD r.1)).bind λb S2=>.ok (.bl b) S2|.min1 a=>(evE a δ S).bind λx S1=>(lift S1 (lstI S1 x)).bind λis S2=>(lift S2 (minZ is)).bind λk S3=>.ok (.int k) S3|.sset a=>(evE a δ S).bind λx S1=>(lift S1 (lstI S1 x)).bind λis S2=>if is.length<64 then lay S2 ((zaq (dedup is)).map .int) else .bad
noncomputable def evEs(e₀:CEs)(δ:Ev)(S:St):Out (List D):=match e₀ with|.nil=>.ok [] S|.cons e r=>(evE e δ S).bind λd S1=>(evEs r δ S1).bind λds S2=>.ok (d::ds) S2
noncomputable def evT(e₀:CE)(δ:Ev)(S:St):Out Bool:=match e₀ with|.cmp op a b=>(evE a δ S).bind λx S1=>(evE b δ S1).bind λy S2=>lift S2 (cmpD S2 op x y)|.cmp2 op op' a b c=>(evE a δ S).bind λx S1=>(evE b δ S1).bind λy S2=>(lift S2 (cmpD S2 op x y)).bind λk S3=>if k then(evE c δ S3).bind λz S4=>lift S4 (cmpD S4 op' y z) else .ok Δ S3|.nt a=>(evT a δ S).bind λk S1=>.ok (!k) S1|.and a b=>(evT a δ S).bind λk S1=>if k then evT b δ S1 else .ok Δ S1|.or a b=>(evT a δ S).bind λk S1=>if k then .ok Γ S1 else evT b δ S1|.tst e=>(evE e δ S).bind λx S1=>lift S1 (tru S1 x)|_=>.bad
noncomputable def evL(e₀:CL)(δ:Ev)(S:St):Out (List D×List Nat):=match e₀ with
 |.val e=>(evE e δ S).bind λx S1=>(lift S1 (zbe S1 x)).bind λds S2=>.ok (ds,lkOf S2 x) S2|.rng1 a=>(evE a δ S).bind λx S1=>match x with|.int j=>if -(2^62)<=j/\j<2^62 then .ok ((List.range j.toNat).map λ(k:Nat)=>.int k,[]) S1 else .bad|_=>.bad
 |.rng2 a b=>(evE a δ S).bind λx S1=>(evE b δ S1).bind λy S2=>match x,y with
  |.int i,.int j=>if -(2^62)<=i/\i<2^62/\-(2^62)<=j/\j<2^62 then .ok ((List.range (j-i).toNat).map λ(k:Nat)=>.int (i+k),[]) S2 else .bad|_,_=>.bad
 |.enum a=>(evE a δ S).bind λx S1=>lift S1 (zb9 S1 x)|.comp n js g it c e=>(evL it δ S).bind λr S1=>(za4 r.2 S1 λS2=>za3 g (evT c) (evE e) r.1 (csl n js δ) S2).bind λds S3=>if ds.length<=16777216 then .ok (ds,[]) S3 else .bad
end
inductive Fl where
 |nx (δ:Ev)|rt (d:D)|ex (d:D)
abbrev zaM(g:List Nat)(b:Ev->St->Out Fl):List D->Ev->St->Out Fl
 | [],a,S=>.ok (.nx a) S| x::i,a,S=>match asgG g x a with|none=>.bad| some c=>(b c S).bind λf e=>match f with|.nx h=>zaM g b i h e|.rt d=>.ok (.rt d) e|.ex d=>.ok (.ex d) e
@[irreducible]noncomputable def appX(f:Nat)(ds:List D)(S:St):Out D:=match cf f ds S.enter with|.ok d T=>zbm S d T|.err d T=>.err d ⟨S.frz,S.new++T.new,S.lk⟩|.bad=>.bad
abbrev zbp(g:List Nat)(f:Nat)(es:CEs):List D->Ev->St->Out (List D)
 | [],_,S=>.ok [] S
 |x::c,e,S=>match asgG g x e with
  |none=>.bad
  |some a=>match evEs cf es a S with
   |.ok h i=>(match appX cf f h i with
    |.ok d b=>(zbp g f es c a b).bind λr j=>.ok (d::r) j|.err d b=>.err d b|.bad=>.bad)
   |_=>.bad
abbrev mthX(m:Str)(a:List (Nat×Nat))(x:D)(S:St)(k:Nat->Out D):Out D:=match zbo S x with
 |some p=>(match a.lookup p.1 with
  |some f=>if(p.2.lookup m).isNone then k f else .bad|none=>.bad)
 |none=>.bad
abbrev ixX(x y:D)(S:St):Out D:=match zbe S x,y with|some a,.int i=>lift S (atI a i)|_,_=>.bad
abbrev exX(g:XE)(δ:Ev)(S:St):Out D:=match g with|.val e=>(evE cf e δ S).ne|.call f h=>(evEs cf h δ S).ne.bind λi d=>appX cf f i d|.meth m j o h=>(evE cf o δ S).ne.bind λx d=>mthX m j x d λf=>(evEs cf h δ d).ne.bind λi l=>appW cf f (x::i) l|.ix a b=>(evE cf a δ S).ne.bind λx d=>(exX b δ d).bind λy l=>ixX x y l|.on o m j=>(exX o δ S).bind λx d=>mthX m j x d λf=>(appW cf f [x] d).ne|.ite c a b=>(evT cf c δ S).ne.bind λk d=>if k then exX a δ d else exX b δ d
abbrev exT(n:TrB)(δ:Ev)(S:St):Out Ev:=match n with
 |.asgX i x=>(exX cf x δ S).bind λd e=>.ok (δ.set i (Φ d)) e|.run f h=>match evEs cf h δ S with|.ok l e=>(appX cf f l e).bind λ_ m=>.ok δ m|_=>.bad
 |.asg i f h=>match evEs cf h δ S with|.ok l e=>(appX cf f l e).bind λd m=>.ok (δ.set i (Φ d)) m|_=>.bad
 |.ite c a b=>match evT cf c δ S with|.ok k e=>if k then exT a δ e else exT b δ e|_=>.bad
 |.mk c f _ j h=>match evEs cf h δ S with
  |.ok l e=>(match appW cf f (.ref e.len::(l++List.replicate j .non)) (e.push (.ins c [])) with
   |.ok d m=>if zkl d then .ok δ m else .bad|.err d m=>.err d m|.bad=>.bad)
  |_=>.bad
 |.comp i p q g s f h=>match evL cf s δ S with
  |.ok r e=>if r.1.length<=16777216 then(match zbp cf g f h r.1 (csl p q δ) {e with lk:=r.2++e.lk} with
   |.ok l o=>.ok (δ.set i (Φ (.ref o.len))) (St.push {o with lk:=e.lk} (.lst l))|.err d o=>.err d {o with lk:=e.lk}|.bad=>.bad) else .bad
  |_=>.bad
abbrev exS(o:CS)(δ:Ev)(S:St):Out Fl:=match o with
 |.nil=>.ok (.nx δ) S|.stop=>.bad|.asg i e r=>(evE cf e δ S).bind λx h=>exS r (δ.set i (Φ x)) h|.asgT g e r=>(evE cf e δ S).bind λx h=>(lift h (asgG g x δ)).bind λj m=>exS r j m|.setIx a b e r=>(evE cf e δ S).bind λv h=>(evE cf a δ h).bind λx m=>(evE cf b δ m).bind λy n=>match dPut n x y v with|some p=>exS r δ p|none=>.bad
 |.setF a f e r=>(evE cf e δ S).bind λv h=>(evE cf a δ h).bind λx m=>match zb6 m x f v with|some n=>exS r δ n|none=>.bad
 |.ifS c t u r=>(evT cf c δ S).bind λk h=>(if k then exS t δ h else exS u δ h).bind λf m=>match f with
  |.nx j=>exS r j m|.rt d=>.ok (.rt d) m|.ex d=>.ok (.ex d) m
 |.forS g l b r=>(evL cf l δ S).bind λq h=>(za4 q.2 h λm=>zaM g (exS b) q.1 δ m).bind λf n=>match f with
  |.nx j=>exS r j n|.rt d=>.ok (.rt d) n|.ex d=>.ok (.ex d) n
 |.retX x _=>match exX cf x δ S with
  |.ok d h=>.ok (.rt d) h|.err d h=>.ok (.ex d) h|.bad=>.bad
 |.ret e _=>(evE cf e δ S).bind λx h=>.ok (.rt x) h|.expr e r=>(evE cf e δ S).bind λ_ h=>exS r δ h|.rais c _ f a=>(evE cf a δ S).bind λd h=>.ok (.ex (.ref h.len)) (h.push (.exc c [(f,d)]))
 |.blk b r=>match exT cf b δ S with
  |.ok j h=>exS r j h|.err d h=>.ok (.ex d) h|.bad=>.bad
 |.tryS b _ s w r=>match exT cf b δ S with|.ok j h=>exS r j h|.err d h=>if(zc9 h d).isSome then exS r ((δ.set s Ψ).set w (Φ d)) h else .bad|.bad=>.bad
end
inductive Prim where
 |lam
structure Fn where
 np:Nat
 nn:Nat
 body:CS
 prim:Option Prim
abbrev zar(F:Fn)(ds:List D):Ev:=ds.map Φ++List.replicate (F.nn-F.np) Ψ
abbrev callF(P:List Fn):Nat->CF
 |0,_,_,_=>.bad
 |n+1,f,a,S=>match P[f]? with
  | some F=>if a.length=F.np then(match F.prim with
     |some .lam=>if 3<=n then(exS (callF P n) F.body (zar F a) S).ne.bind λr T=>(match r with
      |.nx _=>.ok .non T|.rt d=>.ok d T|.ex _=>.bad) else .bad
     |none=>(exS (callF P n) F.body (zar F a) S).ne.bind λr T=>match r with|.nx _=>.ok .non T|.rt d=>.ok d T|.ex d=>.err d T)
    else .bad
  |none=>.bad
@[simp]theorem zaj{α β:Type}(a:α)(S:St)(f:α->St->Out β):(Out.ok a S).bind f=f a S:=rfl
@[simp]theorem zsY{α β:Type}(f:α->St->Out β):(Out.bad:Out α).bind f=.bad:=rfl
@[simp]theorem zsX{α β:Type}(d:D)(S:St)(f:α->St->Out β):(Out.err d S:Out α).bind f=.err d S:=rfl
@[simp]theorem zaV{α:Type}(S:St)(a:α):lift S (Φ a)=.ok a S:=rfl
def za6(S:St):S.enter.get=S.get:=by funext l;simp![St.get,St.enter,length_append,List.getElem?_append];by_cases h:l<S.frz.length;simp[lt_of_lt_of_le h (Nat.le_add_right _ _)];split;rfl;exact(List.getElem?_eq_none (by lia)).symm
@[simp]theorem zfY(S:St):S.enter.frz=S.frz++S.new:=rfl
@[simp]theorem zsr(S:St):S.enter.new=[]:=rfl
@[simp]theorem zsW(S:St):S.enter.lk=[]:=rfl
@[simp]theorem enter_len(S:St):S.enter.len=S.len:=by simp[St.len]
def zcM(S:St):(S.frz++S.new).length=S.len:=by simp[St.len]
def zak{S:St}(h:S.get l=Φ o):l<S.len:=by unfold St.get at h;unfold St.len;split at h;lia;have:=(Α.mp h).1;lia
def zpj{S:St}(h:S.get l=Φ o)(a)(lk):(St.mk (S.frz++S.new) a lk).get l=Φ o:=by
 have b:=zak h;rw[<-za6]at h;unfold St.get at h⊢;have e:l<(S.frz++S.new).length:=by rw[zcM];exact b
 simp![zfY,e]at h⊢;exact h
@[simp]theorem zsT(n:Nat):flat n .non=Γ:=by simp[flat]
@[simp]theorem zt5(n:Nat)(b:Bool):flat n (.bl b)=Γ:=by simp[flat]
@[simp]theorem zsU(n:Nat)(i:Int):flat n (.int i)=Γ:=by simp[flat]
@[simp]theorem zsS(n:Nat)(x:Str):flat n (.str x)=Γ:=by simp[flat]
@[simp]theorem zsR(n:Nat)(ds:List D):flat n (.tup ds)=flats n ds:=by simp[flat]
@[simp]theorem zsV(n:Nat)(ds:List D):flat n (.fix ds)=flats n ds:=by simp[flat]
@[simp]theorem zsi(n:Nat):flats n []=Γ:=by simp[flats]
@[simp]theorem zev(n:Nat)(d:D)(ds:List D):flats n (d::ds)=(flat n d&&flats n ds):=by simp[flats]
@[simp]theorem zc2(n:Nat):∀ds es:List D,flats n (ds++es)=(flats n ds&&flats n es)
  | [],es=>by simp|d::ds,es=>by simp[zc2 n ds es,Bool.and_assoc]
def zbh(n):∀ds:List D,flats n ds=Γ↔∀d∈ds,flat n d=Γ
 | []=>by simp|d::ds=>by simp[zbh n ds]
@[simp]theorem zpN(n:Nat)(ns:List Int):flats n (ns.map D.int)=Γ:=by rw[zbh];simp
@[simp]theorem zbY(S:St)(d:D)(T:St)(h:flat S.len d=Γ):zbm S d T=.ok d S:=by simp[zbm,h]
abbrev W{b:Type}(o:Out b)(Q:b->St->Prop):Prop:=match o with|.ok a S=>Q a S|_=>False
@[simp]theorem W_ok{α:Type}(a:α)(S:St)(Q:α->St->Prop):W (.ok a S) Q=Q a S:=rfl
@[simp]theorem zup{α:Type}(Q:α->St->Prop):W (.bad:Out α) Q=False:=rfl
@[simp]theorem zuo{α:Type}(d:D)(S:St)(Q:α->St->Prop):W (.err d S:Out α) Q=False:=rfl
@[simp]theorem zab{α β:Type}(o:Out α)(f:α->St->Out β)(Q:β->St->Prop):W (o.bind f) Q=W o λa S=>W (f a S) Q:=by cases o<;>rfl
def W.mono(h:W o Q)(b:∀a S,Q a S->c a S):W o c:=by cases o with|ok a S=>exact b a S h|err d S=>exact h|bad=>exact h
def W.b(h:W (o.bind f) Q):W o λa S=>W (f a S) Q:=Eq.mp (zab o f Q) h
def W.bd(h:W o R)(k:∀a S,R a S->W (f a S) Q):W (o.bind f) Q:=Eq.mpr (zab o f Q) (h.mono k)
def W.eq(h:W o λa T=>a=d/\T=S):o=.ok d S:=by cases o with|ok a T=>let⟨rfl,rfl⟩:=h;rfl|err d S=>exact False.elim h|bad=>exact False.elim h
def W.of(h:o=.ok d S)(q:Q d S):W o Q:=by rw[h];exact q
def W.iff:W o Q↔∃a S,o=.ok a S/\Q a S:=by cases o with|ok a S=>exact⟨λh=>⟨a,S,rfl,h⟩,λ⟨_,_,e,h⟩=>by cases e;exact h⟩|err d S=>exact⟨λh=>h.elim,λk=>(by let⟨_,_,e,_⟩:=k;cases e)⟩|bad=>exact⟨λh=>h.elim,λz=>(by let⟨_,_,e,_⟩:=z;cases e)⟩
@[simp]theorem W_ne{α:Type}{o:Out α}{Q:α->St->Prop}:W o.ne Q=W o Q:=by cases o<;>rfl
abbrev fin(S:St)(r:Fl)(T:St):Out D:=match r with|.nx _=>zbm S .non T|.rt d=>zbm S d T|.ex d=>.err d T
@[simp]theorem zhO(S T:St)(d:D):fin S (.rt d) T=zbm S d T:=rfl
@[simp]theorem zum(S T:St)(δ:Ev):fin S (.nx δ) T=.ok .non S:=by simp[fin]
def zh6(h:P[f]?=Φ F)(a:ds.length=F.np)(b:F.prim=Ψ:=by rfl):
  app (callF P (n+1)) f ds S=(exS (callF P n) F.body (zar F ds) S.enter).ne.bind λr T=>fin S r T:=by
 simp![app,callF,h,a,b];generalize exS (callF P n) F.body (zar F ds) S.enter=o;cases o with|ok r T=>cases r<;>rfl|err d S=>rfl|bad=>rfl
abbrev finL(S:St)(r:Fl)(T:St):Out (List D):=match r with|.nx _=>.bad|.rt d=>zka S d T|.ex d=>.err d T
@[simp]theorem zt6(S T:St)(d:D):finL S (.rt d) T=zka S d T:=rfl
def zcB(I:Nat->Ev->St->Prop)(c:D->St->Prop):∀(xs:List D)(k:Nat)(δ:Ev)(S:St),I k δ S->
  (∀i x δ S,xs[i]?=Φ x->I (k+i) δ S->∃δ',asgG g x δ=Φ δ'/\W (b δ' S) λf S'=>match f with|.nx a=>I (k+i+1) a S'|.rt d=>c d S'|.ex _=>False)->
  W (zaM g b xs δ S) λf S'=>match f with|.nx δ'=>I (k+xs.length) δ' S'|.rt d=>c d S'|.ex _=>False
 | [],k,δ,S,h,_=>by simpa[zaM]using h| x::xs,k,δ,S,h,step=>by let⟨δ',e,w⟩:=step 0 x δ S rfl h;simp![zaM,e,zab];refine w.mono λf m j=>?_;cases f with|rt d=>exact j|ex d=>exact j.elim| nx a=>have l:=zcB I c xs (k+1) a m j (λi y δ S n o=>by have:=step (i+1) y δ S (by simpa using n) (by rw[show k+(i+1)=k+1+i by lia];exact o);rw[show k+(i+1)+1=k+1+i+1 by lia]at this;exact this);rw[show k+1+xs.length=k+(x::xs).length by simp;lia]at l;exact l
def zce(p)(f):∀(xs:List D)(o:Option D),
  (∀x∈xs,c (Φ x::rest) S=.ok (p x) S)->(∀x∈xs,p x=Γ->e (Φ x::rest) S=.ok (f x) S)->za3 [0] c e xs (o::rest) S=.ok ((xs.filter p).map f) S
 | [],o,_,_=>rfl| x::xs,o,d,g=>by have h:=zce p f xs (Φ x) (λy a=>d y (Μ _ a)) (λy a=>g y (Μ _ a));simp![za3,asgG,List.set_cons_zero,d x Ν];cases b:p x with|false=>simp[h,b]|true=>simp[h,b,g x Ν b]
def zcC(f)(xs)(o)(a:∀x∈xs,c (Φ x::rest) S=.ok Γ S)(b:∀x∈xs,e (Φ x::rest) S=.ok (f x) S):za3 [0] c e xs (o::rest) S=.ok (xs.map f) S:=by
 have:=zce (λ_=>Γ) f xs o a (λx d _=>b x d);rw[List.filter_eq_self.mpr (λ_ _=>rfl)]at this;exact this
@[simp]theorem zpM{α:Type}(S:St)(f:St->Out α):za4 [] S f=(f S).bind λa S'=>.ok a {S' with lk:=S.lk}:=rfl
abbrev wIf(c:Bool)(P Q:Prop):Prop:=match c with|true=>P|false=>Q
@[irreducible]def wOpt{α:Type}(o:Option α)(k:α->Prop):Prop:=match o with|some a=>k a|none=>False
@[irreducible]def zaZ(p k:Prop):Prop:=p/\k
@[irreducible]def wOut{α:Type}(o:Out α)(Q:α->St->Prop):Prop:=W o Q
def zgl(h:c=Γ)(k:P):wIf c P Q:=by subst h;exact k
def zfl(h:c=Δ)(k:Q):wIf c P Q:=by subst h;exact k
def zs6(a:c=Γ->P)(b:c=Δ->Q):wIf c P Q:=by cases c with|true=>exact zgl rfl (a rfl)|false=>exact zfl rfl (b rfl)
def zc4[Decidable p](a:p->P)(b:¬p->Q):wIf (decide p) P Q:=zs6 (λh=>a (of_decide_eq_true h)) (λh=>b (of_decide_eq_false h))
def wOpt_of(h:o=Φ a)(q:k a):wOpt o k:=by unfold wOpt;rw[h];exact q
def wNeed_of(h:p)(q:k):zaZ p k:=by unfold zaZ;exact⟨h,q⟩
def wOut_of(h:o=.ok a S)(q:Q a S):wOut o Q:=by unfold wOut;rw[h];exact q
def za2(h:W o Q):wOut o Q:=by unfold wOut;exact h
def zp3:wOpt o (λa=>Q a S)=W (lift S o) Q:=by unfold wOpt;cases o<;>rfl
def zaY(h:wOpt o k):∃a,o=Φ a/\k a:=by unfold wOpt at h;cases o with|none=>exact h.elim|some a=>exact⟨a,rfl,h⟩
def zbv[Decidable p](h:zaZ p k)(q:k->W o Q):W (if p then o else .bad) Q:=by unfold zaZ at h;rw[if_pos h.1];exact q h.2
@[reducible]def wGet(S:St)(l:Nat)(k:MO->Prop):Prop:=wOpt (S.get l) k
@[reducible]def wPut(S:St)(l:Nat)(o:MO)(k:St->Prop):Prop:=wOpt (S.put l o) k
abbrev wLay(S:St)(ds:List D)(Q:D->St->Prop):Prop:=zaZ (ds.length<=16777216) (Q (.ref S.len) (S.push (.lst ds)))
def ziT(h:wLay S ds Q):W (lay S ds) Q:=zbv h id
abbrev wWr(S:St)(l:Nat)(ds:List D)(d:D)(Q:D->St->Prop):Prop:=zaZ (ds.length<=16777216) (wPut S l (.lst ds) λa=>Q d a)
def zp0(h:wWr S l ds d Q):W (wr S l ds d) Q:=by refine zbv h λh=>?_;let⟨_,e,h⟩:=zaY h;rw[e];exact h
abbrev zp6(S:St)(op:Operator)(i j:Int)(Q:D->St->Prop):Prop:=match op with|.Add=>Q (.int (i+j)) S|.Sub=>Q (.int (i-j)) S|.Mult=>zaZ (zoR i j=Γ) (Q (.int (i*j)) S)|.FloorDiv=>zaZ (0<j/\j<1073741824) (Q (.int (i/j)) S)|.Mod=>zaZ (0<j) (Q (.int (i%j)) S)|.Pow=>zaZ (0<=j/\j<=1000000/\-18446744073709551616<i/\i<18446744073709551616) (Q (.int (i^j.toNat)) S)|_=>False
abbrev wBin(S:St)(op:Operator)(x y:D)(Q:D->St->Prop):Prop:=match x,y with|.int i,.int j=>zp6 S op i j Q|.tup c,.tup d=>(match op with|.Add=>zaZ (c.length+d.length<=16777216) (Q (.tup (c++d)) S)|_=>False)|.ref a,.ref b=>(match op with|.Add=>wGet S a λo=>wGet S b λu=>(match o,u with|.lst c,.lst d=>wLay S (c++d) Q|_,_=>False)|_=>False)|_,_=>False
def zp5(h:wBin S op x y Q):W (binD S op x y) Q:=by
 unfold wBin at h;unfold binD;split at h
 . unfold zp6 zaZ at h;unfold binI;split at h<;>(try dsimp only)<;>first|exact h|(rw[if_pos h.1];exact h.2)|exact False.elim h
 split at h;exact zbv h id;exact h.elim;split at h
 . let⟨o,a,h⟩:=zaY h;let⟨u,b,h⟩:=zaY h;simp![a,b];cases o<;>cases u<;>first|exact ziT h|exact h.elim
 exact h.elim;exact h.elim
abbrev wCmp(S:St)(op:CmpOp)(x y:D)(Q:Bool->Prop):Prop:=match x,y with|.int i,.int j=>(match cmpI op i j with|some k=>Q k|none=>False)| _,_=>(match op with|.Is=>(match cmpO S .Is x y with|some k=>Q k|none=>False)|.IsNot=>(match cmpO S .IsNot x y with|some k=>Q k|none=>False)|_=>wOpt (cmpO S op x y) Q)
def zgT(h:∀i j,x=.int i->y=.int j->False):cmpD S op x y=cmpO S op x y:=by unfold cmpD;split;rename_i i j;exact(h i j rfl rfl).elim;rfl
def ziV(h:wCmp S op x y Q):∃k,cmpD S op x y=Φ k/\Q k:=by
 have fin:∀o:Option Bool,(match o with|some k=>Q k|none=>False)->∃k,o=Φ k/\Q k:=λo q=>by cases o with|none=>exact q.elim|some k=>exact⟨k,rfl,q⟩
 unfold wCmp at h;split at h;exact fin _ h;rename_i a;rw[zgT a];split at h;exact fin _ h;exact fin _ h;unfold wOpt at h;cases e:cmpO S op x y with|none=>rw[e]at h;exact h.elim|some k=>rw[e]at h;exact⟨k,rfl,h⟩
def zmJ(h:wCmp S op x y λk=>Q k S):W (lift S (cmpD S op x y)) Q:=by let⟨k,e,q⟩:=ziV h;rw[e];exact q
abbrev wBi(S:St)(b:Bi)(ds:List D)(Q:D->St->Prop):Prop:=match b,ds with
 |.len,[x]=>(match x with
  |.tup ds=>Q (.int ds.length) S|.fix ds=>Q (.int ds.length) S|.ref l=>wGet S l λo=>(match o with|.lst ds=>Q (.int ds.length) S|.dic c=>Q (.int c.length) S|_=>False)|_=>False)
 |.abs,[.int i]=>Q (.int (if i<0 then -i else i)) S|.isin t,[x]=>wOpt (tyOf S x) λa=>Q (.bl (a==t||(a=="bool"&&t=="int"))) S|_,_=>False
def zs8(h:wBi S b ds Q):W (bi S b ds) Q:=by
 unfold wBi at h;split at h
 all_goals
  repeat' first
  |exact h
  |exact h.elim
  |split at h
  |(let⟨o,e,h⟩:=zaY h;simp![bi,e])
abbrev wIsL(S:St)(x:D)(P:Prop):Prop:=match x with|.ref l=>wGet S l λo=>(match o with|.lst _=>P|_=>False)|_=>False
def ziU(h:wIsL S x P):isL S x=Γ/\P:=by
 unfold wIsL at h;split at h
 . let⟨o,e,h⟩:=zaY h;cases o<;>first|exact⟨by simp![isL,e],h⟩|exact h.elim
 exact h.elim
abbrev wMt(S:St)(m:Mt)(x:D)(ds:List D)(Q:D->St->Prop):Prop:=match m,x,ds with|.append,.ref l,[y]=>wGet S l λo=>(match o with|.lst ds=>wWr S l (ds++[y]) .non Q|_=>False)|_,_,_=>False
def zs5(h:wMt S m x ds Q):W (mt S m x ds) Q:=by
 unfold wMt at h;split at h
 all_goals
  repeat' first
  |exact h.elim
  |exact h
  |exact zp0 h
  |refine zbv h λh=>?_
  |(let⟨o,e,h⟩:=zaY h;simp![mt,e])
  |split at h
abbrev wSeq(S:St)(x:D)(k:List D->Prop):Prop:=match x with|.tup a=>k a|.fix a=>k a|.ref l=>wGet S l λo=>(match o with|.lst a=>k a|_=>False)|_=>False
def ziQ(h:wSeq S x k):∃ds,zbe S x=Φ ds/\k ds:=by
 unfold wSeq at h;split at h;exact⟨_,rfl,h⟩;exact⟨_,rfl,h⟩
 . let⟨o,e,h⟩:=zaY h;cases o<;>first|exact⟨_,by simp![zbe,e],h⟩|exact h.elim
 exact h.elim
abbrev wTru(S:St)(x:D)(Q:Bool->Prop):Prop:=match x with|.bl b=>Q b|.non=>Q Δ|.int i=>Q (i != 0)|.tup a=>Q (!a.isEmpty)|.ref l=>wGet S l λo=>(match o with|.lst a=>Q (!a.isEmpty)|_=>False)|_=>False
def zp1(h:wTru S x λk=>Q k S):W (lift S (tru S x)) Q:=by
 unfold wTru at h;split at h
 all_goals
  repeat' first
  |exact h
  |exact h.elim
  |split at h
  |(let⟨o,e,h⟩:=zaY h;simp![tru,e])
@[irreducible]def zh7{α:Type}(ls:List Nat)(S:St)(f:St->Out α)(Q:α->St->Prop):Prop:=W (za4 ls S f) Q
def ziS(h:zh7 ls S f Q):W (za4 ls S f) Q:=by unfold zh7 at h;exact h
def zbj(h:W (f {S with lk:=ls++S.lk}) λa T=>Q a {T with lk:=S.lk}):zh7 ls S f Q:=by unfold zh7 za4;rw[zab];exact h
section
variable(cf:CF)
mutual
noncomputable def wE(e₀:CE)(δ:Ev)(S:St)(Q:(D->St->Prop)):Prop:=match e₀ with
 |.loc i=>(match (δ[i]?).join with|some d=>Q d S|none=>False)|.con d=>Q d S|.tst _=>False|.bin op a b=>wE a δ S λx S1=>wE b δ S1 λy S2=>wBin S2 op x y Q|.neg a=>wE a δ S λx S1=>(match x with|.int i=>Q (.int (-i)) S1|_=>False)|.nt a=>wE a δ S λx S1=>(match x with|.bl b=>Q (.bl (!b)) S1|_=>False)|.cmp op a b=>wE a δ S λx S1=>wE b δ S1 λy S2=>wCmp S2 op x y λk=>Q (.bl k) S2|.cmp2 op op' a b c=>wE a δ S λx S1=>wE b δ S1 λy S2=>wCmp S2 op x y λk=>wIf k (wE c δ S2 λz S4=>wCmp S4 op' y z λk'=>Q (.bl k') S4) (Q (.bl Δ) S2)|.and a b=>wE a δ S λx S1=>(match x with|.bl k=>wIf k (wE b δ S1 Q) (Q (.bl Δ) S1)|_=>False)|.or a b=>wE a δ S λx S1=>(match x with|.bl k=>wIf k (Q (.bl Γ) S1) (wE b δ S1 Q)|_=>False)|.ite c a b=>wT c δ S λk S1=>wIf k (wE a δ S1 Q) (wE b δ S1 Q)|.tup es=>wEs es δ S λds S1=>zaZ (ds.length<=16777216) (Q (.tup ds) S1)|.lst es=>wEs es δ S λds S1=>wLay S1 ds Q|.dnew=>Q (.ref S.len) (S.push (.dic []))|.srtK a=>wE a δ S λr S1=>wOpt (zfK S1 r) λq=>zaZ (q.2.length<64/\q.2.Pairwise Lt3) (wLay S1 q.1 Q)|.dic1 a b=>wE a δ S λx S1=>wE b δ S1 λv S2=>wOpt (zbz x) λk=>Q (.ref S2.len) (S2.push (.dic [(k,v)]))|.dsrt a=>wE a δ S λr S1=>wOpt (dicI S1 r) λis=>zaZ (is.length<64) (wLay S1 ((zaq is).map .int) Q)|.dgetI a b c=>wE a δ S λx S1=>zaZ (isDi S1 x=Γ) (wE b δ S1 λy S2=>wE c δ S2 λz S3=>wOpt (zf4 S3 x y) λo=>Q (o.getD z) S3)|.dsetI a b c=>wE a δ S λx S1=>zaZ (isDi S1 x=Γ) (wE b δ S1 λy S2=>wE c δ S2 λz S3=>wOpt (ze8 S3 x y z) λo=>Q o.1 o.2)|.extv a b=>wE a δ S λx S1=>wIsL S1 x (wE b δ S1 λy S2=>wOpt (lsts S2 x y) λo=>wWr S2 o.1 (o.2.1++o.2.2) .non Q)|.fld a f=>wE a δ S λx S1=>wOpt ((zbo S1 x).bind λp=>p.2.lookup f) λv=>Q v S1|.mk c f _ j es=>wEs es δ S λds S1=>wOut (appW cf f (.ref S1.len::(ds++List.replicate j .non)) (S1.push (.ins c []))) λd S2=>zaZ (zkl d=Γ) (Q (.ref S1.len) S2)|.meth m tb o es=>wE o δ S λx S1=>wOpt (zbo S1 x) λp=>wOpt (tb.lookup p.1) λf=>zaZ ((p.2.lookup m).isNone=Γ) (wEs es δ S1 λds S2=>wOut (appW cf f (x::ds) S2) Q)|.callC f _ _ es=>wEs es δ S λds S1=>wOut (appW cf f ds S1) Q|.fldX a f=>wE a δ S λx S1=>wOpt (zc9 S1 x) λp=>wOpt (p.2.lookup f) λd=>Q d S1|.iscX cs _ a=>wE a δ S λx S1=>wOpt (zc9 S1 x) λp=>Q (.bl (cs.contains p.1)) S1|.ix a b=>wE a δ S λx S1=>wE b δ S1 λy S2=>wSeq S2 x λds=>(match y with|.int i=>wOpt (atI ds i) λd=>Q d S2|_=>False)
 |.rep a b=>wE a δ S λx S1=>wE b δ S1 λy S2=>(match x,y with
  |.ref p,.int k=>zaZ (-(2^63)<=k/\k<2^63) (wGet S2 p λo=>(match o with|.lst ds=>wLay S2 (List.replicate k.toNat ds).flatten Q|_=>False))|_,_=>False)
 |.call f j es=>wEs es δ S λds S1=>wOut (app cf f (ds++List.replicate j .non) S1) Q|.callW f j es=>wEs es δ S λds S1=>wOut (appW cf f (ds++List.replicate j .non) S1) Q|.bi b es=>wEs es δ S λds S1=>wBi S1 b ds Q|.mt m o es=>wE o δ S λx S1=>wIsL S1 x (wEs es δ S1 λds S2=>wMt S2 m x ds Q)|.mkL l=>wL l δ S λr S1=>wLay S1 r.1 Q|.mkT l=>wL l δ S λr S1=>zaZ (r.1.length<=16777216) (Q (.tup r.1) S1)|.all l=>wL l δ S λr S1=>wOpt (allD r.1) λb=>Q (.bl b) S1|.min1 a=>wE a δ S λr S1=>wOpt (lstI S1 r) λis=>wOpt (minZ is) λk=>Q (.int k) S1|.sset a=>wE a δ S λr S1=>wOpt (lstI S1 r) λis=>zaZ (is.length<64) (wLay S1 ((zaq (dedup is)).map .int) Q)
noncomputable def wEs(e₀:CEs)(δ:Ev)(S:St)(Q:(List D->St->Prop)):Prop:=match e₀ with|.nil=>Q [] S|.cons e r=>wE e δ S λd S1=>wEs r δ S1 λds S2=>Q (d::ds) S2
noncomputable def wT(e₀:CE)(δ:Ev)(S:St)(Q:(Bool->St->Prop)):Prop:=match e₀ with|.cmp op a b=>wE a δ S λx S1=>wE b δ S1 λy S2=>wCmp S2 op x y λk=>Q k S2|.cmp2 op op' a b c=>wE a δ S λx S1=>wE b δ S1 λy S2=>wCmp S2 op x y λk=>wIf k (wE c δ S2 λz S4=>wCmp S4 op' y z λk'=>Q k' S4) (Q Δ S2)|.nt a=>wT a δ S λk S1=>Q (!k) S1|.and a b=>wT a δ S λk S1=>wIf k (wT b δ S1 Q) (Q Δ S1)|.or a b=>wT a δ S λk S1=>wIf k (Q Γ S1) (wT b δ S1 Q)|.tst e=>wE e δ S λx S1=>wTru S1 x λk=>Q k S1|_=>False
noncomputable def wL(e₀:CL)(δ:Ev)(S:St)(Q:(List D×List Nat->St->Prop)):Prop:=match e₀ with
 |.val e=>wE e δ S λx S1=>wSeq S1 x λds=>Q (ds,lkOf S1 x) S1|.rng1 a=>wE a δ S λx S1=>(match x with|.int j=>zaZ (-(2^62)<=j/\j<2^62) (Q ((List.range j.toNat).map λ(k:Nat)=>.int k,[]) S1)|_=>False)
 |.rng2 a b=>wE a δ S λx S1=>wE b δ S1 λy S2=>(match x,y with
  |.int i,.int j=>zaZ (-(2^62)<=i/\i<2^62/\-(2^62)<=j/\j<2^62) (Q ((List.range (j-i).toNat).map λ(k:Nat)=>.int (i+k),[]) S2)|_,_=>False)
 |.enum a=>wE a δ S λx S1=>wOpt (zb9 S1 x) λr=>Q r S1|.comp n js g it c e=>wL it δ S λr S1=>zh7 r.2 S1 (λS2=>za3 g (evT cf c) (evE cf e) r.1 (csl n js δ) S2) λds S3=>zaZ (ds.length<=16777216) (Q (ds,[]) S3)
end
abbrev wS(o:CS)(δ:Ev)(S:St)(Q:(Fl->St->Prop)):Prop:=match o with|.nil=>Q (.nx δ) S|.stop=>False|.asg i e r=>wE cf e δ S λx h=>wS r (δ.set i (Φ x)) h Q|.asgT g e r=>wE cf e δ S λx h=>wOpt (asgG g x δ) λj=>wS r j h Q|.setIx a b e r=>wE cf e δ S λv h=>wE cf a δ h λx m=>wE cf b δ m λy n=>wOpt (dPut n x y v) λp=>wS r δ p Q|.setF a f e r=>wE cf e δ S λv h=>wE cf a δ h λx m=>wOpt (zb6 m x f v) λn=>wS r δ n Q|.ifS c t u r=>wT cf c δ S λk h=>wIf k (wS t δ h λf m=>(match f with|.nx j=>wS r j m Q|.rt d=>Q (.rt d) m|.ex d=>Q (.ex d) m)) (wS u δ h λf m=>(match f with|.nx j=>wS r j m Q|.rt d=>Q (.rt d) m|.ex d=>Q (.ex d) m))|.forS g l b r=>wL cf l δ S λq h=>zh7 q.2 h (λm=>zaM g (exS cf b) q.1 δ m) λf n=>(match f with|.nx j=>wS r j n Q|.rt d=>Q (.rt d) n|.ex d=>Q (.ex d) n)|.retX x r=>wOut (exS cf (.retX x r) δ S) Q|.ret e _=>wE cf e δ S λx h=>Q (.rt x) h|.expr e r=>wE cf e δ S λ_ h=>wS r δ h Q|.rais c _ f a=>wE cf a δ S λd h=>Q (.ex (.ref h.len)) (h.push (.exc c [(f,d)]))|.blk b r=>wOut (exS cf (.blk b r) δ S) Q|.tryS b x s w r=>wOut (exS cf (.tryS b x s w r) δ S) Q
end
section
variable{cf:CF}
def zmH(h:wOpt o k)(q:∀a,k a->W (f a S) Q):W ((lift S o).bind f) Q:=by let⟨a,rfl,g⟩:=zaY h;exact q a g
def zg5(h:wOpt o λa=>Q a S):W (lift S o) Q:=by rw[<-zp3];exact h
def zp4(h:wIsL S x P)(q:P->W o Q):W (if isL S x then o else .bad) Q:=by rw[if_pos (ziU h).1];exact q (ziU h).2
def zld(h:wIf c A B)(a:A->W o Q)(b:B->W u Q):W (if c then o else u) Q:=by cases c with|true=>exact a h|false=>exact b h
def zs7{o u:Out d}{f:d->St->Out e}{Q:e->St->Prop}(h:wIf c A B)(a:A->W (o.bind f) Q)(b:B->W (u.bind f) Q):W ((if c then o else u).bind f) Q:=by cases c with|true=>exact a h|false=>exact b h
def zmI(h:wCmp S op x y k)(q:∀b,k b->W (f b S) Q):W ((lift S (cmpD S op x y)).bind f) Q:=by let⟨b,e,h⟩:=ziV h;rw[e];exact q b h
def zp2(h:wSeq S x k)(q:∀b,k b->W (f b S) Q):W ((lift S (zbe S x)).bind f) Q:=by let⟨b,e,h⟩:=ziQ h;rw[e];exact q b h
def ziR(h:wOut o Q):W o Q:=by unfold wOut at h;exact h
mutual
theorem wE_W(e:CE){δ:Ev}{S:St}{Q:D->St->Prop}(h:wE cf e δ S Q):W (evE cf e δ S) Q:=by
 cases e with
 |loc i=>
  show W (lift S _) Q;conv at h=>whnf
  split at h;rename_i e;rw[e];exact h;exact h.elim
 |ix a b=>refine W.bd (wE_W a h) λx S1 h=>W.bd (wE_W b h) λy S2 h=>?_;let⟨ds,e,h⟩:=ziQ h;rw[e];cases y with|int i=>exact zg5 h|_=>exact h.elim
 |rep a b=>refine W.bd (wE_W a h) λx S1 h=>W.bd (wE_W b h) λy S2 h=>?_;cases x<;>first|exact h.elim|(cases y<;>first|exact h.elim|(refine zbv h λh=>?_;let⟨o,e,h⟩:=zaY h;simp![e];cases o<;>first|exact ziT h|exact h.elim))
 |fldX a f=>refine W.bd (wE_W a h) λx S1 h=>?_;let⟨o,e,h⟩:=zaY h;rw[e];exact zg5 h| _=>
  conv at h=>whnf
  first
  |exact h
  |exact h.elim
  |refine W.bd (wE_W _ h) λ_ _ h=>?_|refine W.bd (znw _ h) λ_ _ h=>?_|refine W.bd (wL_W _ h) λ_ _ h=>?_|refine W.bd (wT_W _ h) λ_ _ h=>?_
  repeat' first
  |exact h
  |exact h.elim
  |exact zp5 h
  |exact zs8 h
  |exact zs5 h
  |exact ziT h
  |exact zp0 h
  |exact ziR h
  |exact zg5 h
  |exact wE_W _ h
  |refine W.bd (wE_W _ h) λ_ _ h=>?_|refine W.bd (znw _ h) λ_ _ h=>?_|refine W.bd (ziR h) λ_ _ h=>?_|refine zmI h λ_ h=>?_|refine zmH h λ_ h=>?_|refine zbv h λh=>?_|refine zp4 h λh=>?_|refine zld h (λh=>?_) λh=>?_
  |split at h
theorem znw(es:CEs){δ:Ev}{S:St}{Q:List D->St->Prop}(h:wEs cf es δ S Q):W (evEs cf es δ S) Q:=by cases es with|nil=>exact h|cons e r=>exact W.bd (wE_W e h) λ_ _ h=>W.bd (znw r h) λ_ _ h=>h
theorem wT_W(e:CE){δ:Ev}{S:St}{Q:Bool->St->Prop}(h:wT cf e δ S Q):W (evT cf e δ S) Q:=by cases e with|cmp op a b=>exact W.bd (wE_W a h) λ_ _ h=>W.bd (wE_W b h) λ_ _ h=>zmJ h|cmp2 op op' a b c=>exact W.bd (wE_W a h) λ_ _ h=>W.bd (wE_W b h) λ_ _ h=>zmI h λ_ h=>zld h (λh=>W.bd (wE_W c h) λ_ _ h=>zmJ h) λh=>h|nt a=>exact W.bd (wT_W a h) λ_ _ h=>h|and a b=>exact W.bd (wT_W a h) λ_ _ h=>zld h (wT_W b) λh=>h|or a b=>exact W.bd (wT_W a h) λ_ _ h=>zld h (λh=>h) (wT_W b)|tst e=>exact W.bd (wE_W e h) λ_ _ h=>zp1 h|_=>exact h.elim
theorem wL_W(l:CL){δ:Ev}{S:St}{Q:List D×List Nat->St->Prop}(h:wL cf l δ S Q):W (evL cf l δ S) Q:=by
 cases l with
 |val e=>exact W.bd (wE_W e h) λ_ _ h=>zp2 h λ_ h=>h| rng1 a=>refine W.bd (wE_W a h) λx _ h=>?_;cases x<;>first|exact zbv h λh=>h|exact h.elim
 |rng2 a b=>refine W.bd (wE_W a h) λx _ h=>W.bd (wE_W b h) λy _ h=>?_;cases x<;>first|exact h.elim|(cases y<;>first|exact zbv h λh=>h|exact h.elim)
 |enum a=>exact W.bd (wE_W a h) λ_ _ h=>zg5 h|comp n js g it c e=>exact W.bd (wL_W it h) λ_ _ h=>W.bd (ziS h) λ_ _ h=>zbv h λh=>h
end
def wS_W(s)(h:wS cf s δ S Q):W (exS cf s δ S) Q:=by
 induction s generalizing δ S Q with
 |nil=>exact h|stop=>exact h.elim|asg i e r d=>exact W.bd (wE_W e h) λ_ _ h=>d h|asgT g e r d=>exact W.bd (wE_W e h) λ_ _ h=>zmH h λ_ h=>d h|setIx a b e r d=>exact W.bd (wE_W e h) λ_ _ h=>W.bd (wE_W a h) λ_ _ h=>W.bd (wE_W b h) λ_ _ h=>(zaY h).elim λ_ h=>by rw[h.1];exact d h.2|setF a f e r d=>exact W.bd (wE_W e h) λ_ _ h=>W.bd (wE_W a h) λ_ _ h=>(zaY h).elim λ_ h=>by rw[h.1];exact d h.2| ifS c t u r j k d=>
  refine W.bd (wT_W c h) λ_ _ h=>zs7 h (λh=>W.bd (j h) λf _ h=>?_) λh=>W.bd (k h) λf _ h=>?_
  all_goals
   cases f with|nx=>exact d h|rt=>exact h|ex=>exact h
 |forS g l b r m d=>refine W.bd (wL_W l h) λ_ _ h=>W.bd (ziS h) λf _ h=>?_;cases f with|nx=>exact d h|rt=>exact h|ex=>exact h
 |ret e=>exact W.bd (wE_W e h) λ_ _ h=>h|rais c x f a=>exact W.bd (wE_W a h) λ_ _ h=>h|tryS|blk|retX=>exact ziR h|expr e r d=>exact W.bd (wE_W e h) λ_ _ h=>d h
@[irreducible]def wFin(S:St)(r:Fl)(T:St)(Q:D->St->Prop):Prop:=W (fin S r T) Q
def zsL(h:P[f]?=Φ F)(a:ds.length=F.np)(w:wS (callF P n) F.body (zar F ds) S.enter λr T=>wFin S r T Q)(b:F.prim=Ψ:=by rfl):
  W (app (callF P (n+1)) f ds S) Q:=by
 rw[zh6 h a b,zab,W_ne];refine(wS_W _ w).mono λr T q=>?_;unfold wFin at q;exact q
def zcc(h:P[f]?=Φ F)(b:ds.length=F.np)(w:wS (callF P n) F.body (zar F ds) S.enter λr T=>wFin S r T λa c=>a=d/\c=S')(e:F.prim=Ψ:=by rfl):
 app (callF P (n+1)) f ds S=.ok d S':=W.eq (zsL h b w e)
def zao(h:flat S.len d=Γ)(q:Q d S):wFin S (.rt d) T Q:=by unfold wFin;rw[zhO,zbY S d T h];exact q
def zdk(b:S.len<=l)(a:T.get l=Φ (.lst ds))(h:flats S.len ds=Γ)(q:Q (.ref S.len) (S.push (.lst ds))):wFin S (.rt (.ref l)) T Q:=by
 have h0:flat S.len (.ref l)=Δ:=by simp[flat];omega
 unfold wFin;rw[zhO];unfold zbm;simp![h0,a,h];exact q
end
structure Frm(S S':St):Prop where
 frz:S'.frz=S.frz
 lk:S'.lk=S.lk
 len:S.new.length<=S'.new.length
 same:∀l∈S.lk,l<S.len->S'.get l=S.get l
def Frm.refl(S):Frm S S:=⟨rfl,rfl,le_refl _,λ_ _ _=>rfl⟩
def Frm.lens(h:Frm S a):S.len<=a.len:=by unfold St.len;rw[h.frz];have:=h.len;lia
def Frm.trans(a:Frm S S1)(b:Frm S1 d):Frm S d:=⟨b.frz.trans a.frz,b.lk.trans a.lk,le_trans a.len b.len,λl c h=>(b.same l (by rw[a.lk];exact c) (lt_of_lt_of_le h a.lens)).trans (a.same l c h)⟩
def Frm.push(S)(o):Frm S (S.push o):=by refine⟨rfl,rfl,by simp[St.push],λl _ h=>?_⟩;unfold St.len at h;unfold St.get St.push;simp only;split;rfl;rw[getElem?_append_left (by omega)]
def Frm.put(h:S.put l o=Φ a):Frm S a:=by
 unfold St.put at h;split at h;exact nS h;split at h;exact nS h;rename_i f b;injection h with h;subst h;refine⟨rfl,rfl,by simp,λm c g=>?_⟩;have d:m≠l:=λe=>by subst e;exact b (by simpa using c)
 unfold St.get;split;rfl;rw[getElem?_set_ne (by lia)]
def Frm.keep(S T:St):Frm S ⟨S.frz,S.new++T.new,S.lk⟩:=by refine⟨rfl,rfl,by simp,λl _ h=>?_⟩;unfold St.len at h;unfold St.get;simp only;split;rfl;rw[getElem?_append_left (by omega)]
def Frm.unl(h:Frm {S with lk:=ls++S.lk} T):Frm S {T with lk:=S.lk}:=⟨h.frz,rfl,h.len,λl a b=>h.same l (mem_append_right _ a) b⟩
abbrev Fr{b:Type}(S:St)(o:Out b):Prop:=∀a T,o=.ok a T->Frm S T
section
variable{α β:Type}{S T:St}{o:Out α}
def Fr.of(h:Frm S T):Fr S (.ok a T):=λ_ _ e=>by cases e;exact h
def Fr.ok:Fr S (.ok a S):=.of (.refl S)
def Fr.bad:Fr S (.bad:Out α):=λ_ _ e=>by cases e
def Fr.to(h:Frm S T)(k:Fr T o):Fr S o:=λa U e=>h.trans (k a U e)
def Fr.bind(h:Fr S o)(k:∀a T,Fr T (f a T)):Fr S (o.bind f):=by cases o with|ok a T=>exact .to (h a T rfl) (k a T)|_=>exact λ_ _ e=>by cases e
def Fr.w(f:Fr S o)(h:W o Q):W o λa T=>Q a T/\Frm S T:=by cases o with|ok a T=>exact⟨h,f a T rfl⟩|_=>exact h
def Fr.lift{o:Option α}:Fr S (lift S o):=by cases o with|none=>exact .bad|some=>exact .ok
def Fr.lock(h:∀S,Fr S (f S)):Fr S (za4 ls S f):=by unfold za4;cases e:f {S with lk:=ls++S.lk} with|ok a T=>exact .of (have h:=h _ a T e;⟨h.frz,rfl,h.len,λl b c=>h.same l (mem_append_right _ b) c⟩)|_=>exact λ_ _ e=>by cases e
def zsh:Fr S (lay S ds):=by unfold lay;split;exact .of (.push _ _);exact .bad
def frWr:Fr S (wr S l ds d):=by
 unfold wr
 repeat' first
 |exact .bad
 |exact .of (.put (by assumption))
 |split
def zt3:Fr S (binD S op x y):=by
 unfold binD binI
 repeat' first
 |exact .bad
 |exact .ok
 |exact zsh
 |split
def frBi:Fr S (bi S b ds):=by
 cases b<;>rcases ds with _|⟨x,_|⟨y,_|⟨z,_⟩⟩⟩
 all_goals first
 |exact .bad
 |exact .ok
 |(unfold bi;dsimp only;split<;>first|exact .bad|exact .ok|(split<;>first|exact .bad|exact .ok))
 |(cases x<;>first|exact .bad|exact .ok|(cases y<;>first|exact .bad|exact .ok))
def frMt:Fr S (mt S m x ds):=by
 cases m<;>cases x<;>(try exact .bad)<;>rcases ds with _|⟨y,_|⟨z,_⟩⟩
 all_goals first
 |exact .bad
 |(unfold mt;split<;>first|exact .bad|exact frWr)
 |(cases y<;>first
  |exact .bad
  |(unfold mt;repeat' first
   |exact .bad
   |exact .ok
   |exact frWr
   |split))
def zt2(h:zb6 S x f v=Φ T):Frm S T:=by
 unfold zb6 at h
 repeat' first
 |exact .put h
 |exact nS h
 |split at h
def zsg(h:dPut S x y v=Φ T):Frm S T:=by
 unfold dPut Option.bind at h
 repeat' first
 |exact .put h
 |exact nS h
 |split at h
 |dsimp only at h
def zt1:Fr S ((R.lift S (ze8 S x y v)).bind λo _=>.ok o.1 o.2):=by
 unfold ze8;split;exact .ok;cases e:dPut S x y v with|none=>exact .bad|some=>exact .of (zsg e)
 exact .bad
def zkz:Fr S (zbm S d T):=by
 unfold zbm;dsimp only
 repeat' first
 |exact .ok
 |exact .of (.push _ _)
 |exact .of (.keep _ _)
 |split
def zt4:Fr S (app cf f ds S):=by unfold app;cases cf f ds S.enter with|ok=>exact zkz|_=>exact λ_ _ e=>by cases e
def frC(a:∀δ S,Fr S (c δ S))(b:∀δ S,Fr S (e δ S))(xs)(δ)(S):Fr S (za3 g c e xs δ S):=by
 induction xs generalizing δ S with
 |nil=>exact .ok| cons x xs d=>
  unfold za3
  repeat' first
  |exact .bad
  |exact .ok
  |exact d _ _
  |exact a _ _
  |exact b _ _
  |refine Fr.bind ?_ λ_ _=>?_
  |split
def frF(a:∀δ S,Fr S (b δ S))(xs)(δ)(S):Fr S (zaM g b xs δ S):=by
 induction xs generalizing δ S with
 |nil=>exact .ok| cons x xs c=>
  unfold zaM
  repeat' first
  |exact .bad
  |exact .ok
  |exact c _ _
  |exact a _ _
  |refine Fr.bind ?_ λ_ _=>?_
  |split
end
abbrev Fx{a:Type}(S:St)(o:Out a):Prop:=Fr S o/\∀d T,o=.err d T->Frm S T
section
variable{α β:Type}{S T:St}{o:Out α}
def Fx.of(h:Frm S T):Fx S (.ok a T):=⟨.of h,λ_ _ e=>by cases e⟩
def Fx.er(h:Frm S T):Fx S (.err d T:Out α):=⟨λ_ _ e=>(by cases e),λ_ _ e=>by cases e;exact h⟩
def Fx.ok:Fx S (.ok a S):=.of (.refl S)
def Fx.bad:Fx S (.bad:Out α):=⟨.bad,λ_ _ e=>by cases e⟩
def Fx.to(h:Frm S T)(k:Fx T o):Fx S o:=⟨.to h k.1,λa U e=>h.trans (k.2 a U e)⟩
def Fx.bind(h:Fx S o)(k:∀a T,Fx T (f a T)):Fx S (o.bind f):=by cases o with|ok a T=>exact .to (h.1 a T rfl) (k a T)|err d T=>exact .er (h.2 d T rfl)|bad=>exact .bad
def Fx.ne(h:Fr S o):Fx S o.ne:=by cases o with|ok a T=>exact .of (h a T rfl)|_=>exact .bad
def Fx.lift{o:Option α}:Fx S (lift S o):=by cases o with|none=>exact .bad|some=>exact .ok
end
abbrev CFok(cf:CF):Prop:=∀f a S,Fx S (cf f a S)
section
variable{cf:CF}(hcf:CFok cf)
include hcf
def fxW{f:Nat}{ds:List D}{S:St}:Fx S (appW cf f ds S):=by unfold appW;exact hcf f ds S
def frW{f:Nat}{ds:List D}{S:St}:Fr S (appW cf f ds S):=(fxW hcf).1
mutual
theorem frE(e:CE)(δ:Ev)(S:St):Fr S (evE cf e δ S):=by
 cases e
 all_goals
  first
  |exact .ok
  |exact .bad
  |exact .lift
  |exact .of (.push _ _)
  |refine Fr.bind ?_ λ_ _=>?_
 all_goals
  repeat' first
  |exact .ok
  |exact .bad
  |exact .lift
  |exact frE _ _ _
  |exact frEs _ _ _
  |exact frT _ _ _
  |exact frL _ _ _
  |exact zt3
  |exact frBi
  |exact frMt
  |exact zsh
  |exact frWr
  |exact zt4
  |exact frW hcf
  |exact .to (.push _ _) (frW hcf)
  |exact .of (.push _ _)
  |exact zt1
  |refine Fr.bind ?_ λ_ _=>?_
  |split
theorem frEs(e:CEs)(δ:Ev)(S:St):Fr S (evEs cf e δ S):=by cases e with|nil=>exact .ok|cons e r=>exact .bind (frE e δ S) λ_ T=>.bind (frEs r δ T) λ_ _=>.ok
theorem frT(e:CE)(δ:Ev)(S:St):Fr S (evT cf e δ S):=by
 cases e
 all_goals
  first
  |exact .bad
  |refine Fr.bind ?_ λ_ _=>?_
 all_goals
  repeat' first
  |exact .ok
  |exact .lift
  |exact frE _ _ _
  |exact frT _ _ _
  |refine Fr.bind ?_ λ_ _=>?_
  |split
theorem frL(e:CL)(δ:Ev)(S:St):Fr S (evL cf e δ S):=by
 cases e
 all_goals
  refine Fr.bind ?_ λ_ _=>?_
  all_goals
   repeat' first
   |exact .ok
   |exact .bad
   |exact .lift
   |exact frE _ _ _
   |exact frL _ _ _
   |exact .lock λ_=>frC (λδ S=>frT _ δ S) (λδ S=>frE _ δ S) _ _ _|refine Fr.bind ?_ λ_ _=>?_
   |split
end
def fxA{f:Nat}{ds:List D}{S:St}:Fx S (appX cf f ds S):=by
 unfold appX;cases e:cf f ds S.enter with
 |ok d T=>exact⟨zkz,λa b h=>by
  exfalso;unfold zbm at h;dsimp only at h
  repeat' first
  |cases h
  |split at h⟩
 |err d T=>exact .er (.keep _ _)|bad=>exact .bad
omit hcf in
def fxM(h:∀f,Fx S (k f)):Fx S (mthX m a x S k):=by
 unfold mthX
 repeat' first
 |exact .bad
 |exact h _
 |split
def fxC{g:List Nat}{f:Nat}{es:CEs}(xs:List D)(δ:Ev)(S:St):Fx S (zbp cf g f es xs δ S):=by
 induction xs generalizing δ S with
 |nil=>exact .ok| cons x xs a=>
  unfold zbp
  repeat' first
  |exact .bad
  |exact .ok
  |exact a _ _
  |exact fxA hcf
  |refine Fx.to (frEs hcf _ _ _ _ _ (by assumption)) ?_
  |refine Fx.to ((fxA hcf).1 _ _ (by assumption)) ?_
  |exact .er ((fxA hcf).2 _ _ (by assumption))
  |refine Fx.bind ?_ λ_ _=>?_
  |split
def fxX(x:XE)(δ:Ev)(S:St):Fx S (exX cf x δ S):=by
 cases x
 all_goals
  first
  |exact .ne (frE hcf _ _ _)
  |refine Fx.bind ?_ λ_ _=>?_
 all_goals
  repeat' first
  |exact .bad
  |exact .ok
  |exact .lift
  |exact .ne (frE hcf _ _ _)
  |exact .ne (frEs hcf _ _ _)
  |exact .ne (frT hcf _ _ _)
  |exact .ne (frW hcf)
  |exact fxA hcf
  |exact fxW hcf
  |exact fxX _ _ _
  |refine fxM λ_=>?_|refine Fx.bind ?_ λ_ _=>?_
  |(unfold ixX;split)
  |split
def fxT(b:TrB)(δ:Ev)(S:St):Fx S (exT cf b δ S):=by
 cases b
 all_goals
  first
  |refine Fx.bind (fxX hcf _ _ _) λ_ _=>?_
  |(unfold exT;split)
 all_goals
  repeat' first
  |exact .bad
  |exact .ok
  |exact fxA hcf
  |refine Fx.to (frEs hcf _ _ _ _ _ (by assumption)) ?_
  |refine Fx.to (frT hcf _ _ _ _ _ (by assumption)) ?_
  |refine Fx.to (frL hcf _ _ _ _ _ (by assumption)) ?_
  |exact .of ((Frm.push _ _).trans ((fxW hcf).1 _ _ (by assumption)))
  |exact .er ((Frm.push _ _).trans ((fxW hcf).2 _ _ (by assumption)))
  |exact .of (((fxC hcf _ _ _).1 _ _ (by assumption)).unl.trans (.push _ _))
  |exact .er ((fxC hcf _ _ _).2 _ _ (by assumption)).unl
  |exact fxT _ _ _
  |refine Fx.bind ?_ λ_ _=>?_
  |split
def frS(s:CS)(δ:Ev)(S:St):Fr S (exS cf s δ S):=by
 cases s
 all_goals
  first
  |exact .ok
  |exact .bad
  |refine Fr.bind ?_ λ_ _=>?_
  |(conv=>arg 2;whnf)
 all_goals
  repeat' first
  |exact .ok
  |exact .bad
  |exact .lift
  |exact frE hcf _ _ _
  |exact frT hcf _ _ _
  |exact frL hcf _ _ _
  |exact frS _ _ _
  |exact .to (zsg (by assumption)) (frS _ _ _)
  |exact .of (.push _ _)
  |exact .of ((fxX hcf _ _ _).1 _ _ (by assumption))
  |exact .of ((fxX hcf _ _ _).2 _ _ (by assumption))
  |exact .to ((fxT hcf _ _ _).1 _ _ (by assumption)) (frS _ _ _)
  |exact .to ((fxT hcf _ _ _).2 _ _ (by assumption)) (frS _ _ _)
  |exact .of ((fxT hcf _ _ _).2 _ _ (by assumption))
  |exact .to (zt2 (by assumption)) (frS _ _ _)
  |exact .lock λ_=>frF (λδ S=>frS _ δ S) _ _ _|refine Fr.bind ?_ λ_ _=>?_
  |split
end
end R
namespace R
open PySem
abbrev TrcR(h:Heap)(e:Addr)(vs:Array Ξ)(lo:Nat):Prop:=∃T a b,vs[1]?=Φ (.ref T)/\T≠e/\h.get? T=Φ a/\a.data=.fields b/\3<b.size/\lo<=T
abbrev Trc(h:Heap)(e:Addr)(vs:Array Ξ)(lo:Nat):Prop:=vs[1]?=Φ .none\/TrcR h e vs lo
structure Ntd(fs:List Addr)(e:Addr)(oe:Obj)(vs:Array Ξ)(lo:Nat)(h h':Heap):Prop where
 keep:∀b o,b≠e->vs[1]?≠Φ (.ref b)->b∉fs->h.get? b=Φ o->h'.get? b=Φ o
 slot:∀b o,b∈fs->h.get? b=Φ o->∃sl,h'.get? b=Φ {o with slots:=sl}
 there:∀b o,h.get? b=Φ o->∃o',h'.get? b=Φ o'
 sz:h.objs.size<=h'.objs.size
 exc:∃vs',h'.get? e=Φ {oe with data:=.fields vs'}/\vs'.size=vs.size/\TrcR h' e vs' lo/\∀T,vs'[1]?=Φ (.ref T)->h.objs.size<=T\/vs[1]?=Φ (.ref T)
def Ntd.trans(n:Ntd l e d vs lo h p)(f:p.get? e=Φ {d with data:=.fields a})(m:Ntd l e {d with data:=.fields a} a lo p v):Ntd l e d vs lo h v:=by
 let⟨g,r,w,G,s⟩:=n.exc;obtain rfl:g=a:=by rw[f]at r;simpa using r.symm
 let⟨i,x,y,A,B⟩:=m.exc;refine⟨λb o t u c q=>m.keep b o t (λz=>?_) c (n.keep b o t u c q),λb o c q=>?_,λb o q=>?_,le_trans n.sz m.sz,i,x,y.trans w,A,λT C=>?_⟩;rcases s b z with z|z;exact absurd (Β q) (Nat.not_lt.mpr z);exact u z;let⟨H,j⟩:=n.slot b o c q;let⟨k,E⟩:=m.slot b _ c j;exact⟨k,E⟩;let⟨I,j⟩:=n.there b o q;exact m.there b _ j;rcases B T C with z|z;exact .inl (le_trans n.sz z);exact s T z
section
variable{M:Model}{A:ϐ}{E:Ξ->Ζ->Prop}{s:Ζ}{base:Heap}{env:Env}{outer:List Env}{L e:Addr}{oe:Obj}{vs:Array Ξ}{lo:Nat}
def zni(k:A.frames=Φ (env::outer))(y:s.heap.FunFrames base (env::outer))(hf:env.frame=Φ L)(z:s.heap.get? e=Φ oe)(hd:oe.data=.fields vs)(hz:1<vs.size)(l:lo<=s.heap.objs.size)(h:∀h',s.heap.objs.size<=h'.objs.size->(∀b o,b≠e->b∉(env::outer).filterMap (·.frame)->s.heap.get? b=Φ o->h'.get? b=Φ o)->(∀b o,b≠e->s.heap.get? b=Φ o->∃g,h'.get? b=Φ {o with slots:=g})->
   (∃c,h'.get? e=Φ {oe with data:=.fields c}/\c.size=vs.size/\TrcR h' e c lo/\∀T,c[1]?=Φ (.ref T)->s.heap.objs.size<=T)->Q () {s with heap:=h'}):
  wpAny M A (do let I <-frameOf env;let i <-entryPlaceOf L b;let en <-EntryCells.newEntry d I .none (rawInt L) .none i;setField (.ref e) 1 en) Q E s:=by
 have m:e∉(env::outer).filterMap (·.frame):=λJ=>by let⟨_,o,B,n⟩:=y.mem J;rw[z]at B;cases B;exact n vs hd
 refine Θ (wpAny_frameOf_fun k y hf λa N=>?_);let⟨p,same,r⟩:=N;refine Θ (wpAny_entryPlaceOf λi t=>?_);refine Θ (ό ?_ (t.sizeOk5 _ _ _ _ _));generalize O:({cls:=.type "traceback",dict:=Ψ,data:=.fields ([d,.ref L,.none,rawInt L,.none]++(if i.isEmpty then List.replicate 6 Ξ.none else i)).toArray}:Obj)=j;obtain⟨u,f,U⟩:∃u,j.data=.fields u/\3<u.size:=by subst O;exact⟨_,rfl,by simp![size_toArray,length_append,ϊ];lia⟩
 have C:=(same e m).trans z;have G:=Λ j C;refine wpAny_setField G hd hz ?_;have H:=ne_of_gt (Β C);have Y:=Obj.data_mapFields hd (·.setIfInBounds 1 (Ξ.ref a.objs.size));have e3:=ϑ (Obj.mapFields (·.setIfInBounds 1 (Ξ.ref a.objs.size))) G (Obj.isFreed_of_fields Y);have v:=Obj.isFreed_of_fields f;have T3:=(Ρ (a.push j) (Obj.mapFields (·.setIfInBounds 1 (Ξ.ref a.objs.size))) (Ne.symm H)).trans (Ι a v);refine h _ ?_ (λb o w n q=>?_) (λb o w q=>?_) ?_;rw[Heap.size_after_update,ϔ,p];exact le_succ _;have x:=(same b n).trans q;rw[Ρ _ _ (Ne.symm w)];exact Λ _ x;let⟨g,x⟩:=r b o q;refine⟨g,?_⟩;rw[Ρ _ _ (Ne.symm w)];exact Λ _ x
 . refine⟨vs.setIfInBounds 1 (.ref a.objs.size),?_,by simp,⟨a.objs.size,_,_,by simp[hz],H,T3,f,U,by rw[p];exact l⟩,λT f=>?_⟩
   rotate_left
   have:(vs.setIfInBounds 1 (.ref a.objs.size))[1]?=Φ (Ξ.ref a.objs.size):=by simp[hz]
   rw[this]at f;cases f;exact le_of_eq p.symm;rw[e3];let⟨oc,od,dt,g⟩:=oe;subst hd;rfl
def zmK{h:Heap}(v)(f:h.get? T=Φ g)(a:g.data=.fields ts)(i:3<ts.size):
  (∀b,b≠T->(h.update T (Obj.mapFields (·.setIfInBounds 3 v))).get? b=h.get? b)/\∃c d,(h.update T (Obj.mapFields (·.setIfInBounds 3 v))).get? T=Φ c/\c.data=.fields d/\3<d.size:=
 ⟨λb j=>Ρ _ _ (Ne.symm j),_,_,ϑ _ f (Obj.isFreed_of_fields (Obj.data_mapFields a _)),Obj.data_mapFields a _,by simpa using i⟩
def zhx(v)(m:s.heap.FunFrames base (env::outer))(n:s.heap.get? e=Φ oe)(hd:oe.data=.fields vs)(f:vs[1]?=Φ (.ref T))(h:T≠e)(i:s.heap.get? T=Φ p)(j:p.data=.fields ts)(r:3<ts.size)(t:lo<=T):
  Ntd ((env::outer).filterMap (·.frame)) e oe vs lo s.heap (s.heap.update T (Obj.mapFields (·.setIfInBounds 3 v))):=by
 let⟨a,u,w,g,d,z⟩:=zmK v i j r;have c:T∉(env::outer).filterMap (·.frame):=λx=>by let⟨_,o,k,y⟩:=m.mem x;rw[i]at k;cases k;exact y ts j
 refine⟨λb o _ B _ q=>(a b λz=>B (z▸f)).trans q,λb o C q=>⟨o.slots,(a b λz=>c (z▸C)).trans q⟩,λb o q=>?_,le_of_eq (Heap.size_after_update ..).symm,vs,?_,rfl,⟨T,u,w,f,h,g,d,z,t⟩,λ_ z=>.inr z⟩;by_cases l:b=T;subst l;exact⟨_,g⟩;exact⟨_,(a b l).trans q⟩;rw[a e (Ne.symm h),n];let⟨G,H,I,J⟩:=oe;subst hd;rfl
def zkB(g:s.heap.FunFrames base (env::outer))(a:s.heap.get? e=Φ oe)(hd:oe.data=.fields vs)(i:TrcR s.heap e vs lo)(h:∀h',Ntd ((env::outer).filterMap (·.frame)) e oe vs lo s.heap h'->Q () {s with heap:=h'}):wpAny M A (setFlight (.ref e) l) Q E s:=by
 let⟨T,m,n,b,j,c,d,f,k⟩:=i;refine Θ (ϣ a hd b ?_);exact wpAny_setField c d f (h _ (zhx _ g a hd b j c d f k))
def zrK(k:A.frames=Φ (env::outer))(w:s.heap.FunFrames base (env::outer))(hf:env.frame=Φ L)(c:s.heap.get? e=Φ oe)(hd:oe.data=.fields vs)(tr:Trc s.heap e vs lo)(l:lo<=s.heap.objs.size)(h:∀h',Ntd ((env::outer).filterMap (·.frame)) e oe vs lo s.heap h'->Q () {s with heap:=h'}):
  wpAny M A (noteFrame (.ref e) env) Q E s:=by
 have m:e∉(env::outer).filterMap (·.frame):=λn=>by let⟨_,o,O,d⟩:=w.mem n;rw[c]at O;cases O;exact d vs hd
 unfold noteFrame;simp![hf];rcases tr with f|⟨T,oT,U,f,x,i,j,p,Y⟩;refine Θ (ϣ c hd f ?_);refine zni k w hf c hd (Array.getElem?_eq_some_iff.mp f).1 l λh' y B r ⟨g,t,C,G,H⟩=>h h' ⟨λb o a _ d q=>B b o a d q,λb o n q=>r b o (λz=>m (z▸n)) q,λb o q=>?_,y,g,t,C,G,λT z=>.inl (H T z)⟩;by_cases a:b=e;subst a;exact⟨_,t⟩;let⟨I,J⟩:=r b o a q;exact⟨_,J⟩;refine Θ (ϣ c hd f ?_);refine Θ (ϣ i j (Array.getElem?_eq_getElem p) ?_);split;refine Ω ?_;have:=h s.heap ⟨λb o _ _ _ q=>q,λb o _ q=>⟨o.slots,q⟩,λb o q=>⟨o,q⟩,le_refl _,vs,(by rw[c];let⟨oc,od,dt,I⟩:=oe;subst hd;rfl),rfl,⟨T,oT,U,f,x,i,j,p,Y⟩,λ_ z=>.inr z⟩;exact this;refine Θ (wpAny_setField i j p ?_);have n1:=zhx Ξ.none w c hd f x i j p Y;let⟨u,_⟩:=zmK Ξ.none i j p;have N:=w.of_keeps λb o a d=>⟨o,(u b λz=>by rw[z,i]at a;cases a;exact d U j).trans a,rfl⟩;have v:(s.heap.update T (Obj.mapFields (·.setIfInBounds 3 Ξ.none))).get? e=Φ {oe with data:=.fields vs}:=by rw[u e (Ne.symm x),c];let⟨oc,od,dt,I⟩:=oe;subst hd;rfl
 refine zni k N hf v rfl (Array.getElem?_eq_some_iff.mp f).1 (by rw[Heap.size_after_update];exact l)
  λh' y B r ⟨g,t,C,G,H⟩=>h h' (n1.trans v ⟨λb o a _ d q=>B b o a d q,λb o n q=>r b o (λz=>m (z▸n)) q,λb o q=>?_,y,g,t,C,G,λT z=>.inl (H T z)⟩)
 by_cases a:b=e;subst a;exact⟨_,t⟩;let⟨I,J⟩:=r b o a q;exact⟨_,J⟩
def Ntd.frames(n:Ntd ((env::outer).filterMap (·.frame)) e oe vs lo h h')(f:h.FunFrames base (env::outer))(g:h.get? e=Φ oe)(hd:oe.data=.fields vs)(i:Trc h e vs lo):h'.FunFrames base (env::outer):=f.of_keeps λb o a c=>by by_cases d:b∈(env::outer).filterMap (·.frame);let⟨p,q⟩:=n.slot b o d a;exact⟨_,q,rfl⟩;refine⟨o,n.keep b o (λz=>?_) (λz=>?_) d a,rfl⟩;rw[z,g]at a;cases a;exact c vs hd;rcases i with t|⟨T,r,j,k,u,l,m,v,w⟩;rw[t]at z;cases z;rw[k]at z;cases z;rw[l]at a;cases a;exact c j m
def zhp(a:A.frames=Φ (env::outer))(c:s.heap.FunFrames base (env::outer))(hf:env.frame=Φ L)(d:s.heap.get? e=Φ oe)(hd:oe.data=.fields vs)(f:Trc s.heap e vs lo)(b:lo<=s.heap.objs.size)(h:∀h',Ntd ((env::outer).filterMap (·.frame)) e oe vs lo s.heap h'->Q () {s with heap:=h'}):
  wpAny M A (noteFrame (.ref e) env) (λ_ s'=>wpAny M A (setFlight (.ref e) Ψ) Q E s') E s:=by
 refine zrK a c hf d hd f b λh' n=>?_;let⟨i,g,l,j,o⟩:=n.exc;exact zkB (n.frames c d hd f) g rfl j λk m=>h k (n.trans g m)
end
section
variable{prog:Ο}{w:ϋ}{A:ϐ}{E:Ξ->Ζ->Prop}{h:Heap}{g:Array GenState}{d:Drawn}{t:Nat}{os:OsState}
variable{nm q:Str}{C N:Addr}{bs bm bmB:List Ξ}{hdct:Bool}{sn:List Str}{sub:List Ξ}{ab:Bool}{col:Option Bool}{dd:Option Addr}{k0 k1 k2 k3 k5:Option Ξ}{B newId initId:String}
def zmr(F:ExcBaseFacts B newId initId bmB)(T:OwnTail h bmB bm)(c:h.get? C=Φ (excClassObj nm q C N bs bm hdct sn sub ab col dd k0 k1 k2 k3 k5 newId))(u:h.Ns N n)(v:n "__init__"=Φ (.ref fI))(j:h.get? fI=Φ y)(k:y.cls=.type "function")(G:∀h' e,Heap.MadeExcOf h h' e (.ref C) rest->h.objs.size<=e->wpAny (model prog w) A (call (.ref fI) (.ref e::rest)) (λr s'=>r=.none/\Q (.done (.ret (.ref e))) s') E ⟨h',g,d,t,os⟩)(a:rest.length<=sizeLine):
  wpAny (model prog w) A (Builtin.«type.__call__» ⟨.ref C::rest,[]⟩) Q E ⟨h,g,d,t,os⟩:=by
 repeat (first|with_reducible refine wpAny_loadPart_at c ?_|with_reducible refine wpAny_madeBy_exc c ?_|wp_step)
 refine codeAny_call_builtin_code (Code.quiet_builtin _ F.quiet) (wpAny_check_new_subT F T c (codeAny_exc_new_subT F T c ?_ a));show wpAny _ _ _ _ _ _;generalize l:h.push {cls:=.type "tuple",data:=.seq rest.toArray}=H;generalize m:H.push {cls:=.ref C,data:=.fields #[.ref h.objs.size,.none,.none,.none,.bool Δ,.none]}=f;have i:∀b o,h.get? b=Φ o->f.get? b=Φ o:=λb o z=>by subst m l;exact Λ _ (Λ _ z)
 have p:f.get? (h.objs.size+1)=Φ {cls:=.ref C,data:=.fields #[.ref h.objs.size,.none,.none,.none,.bool Δ,.none]}:=by subst m l;heap_get
 have gt:f.get? h.objs.size=Φ {cls:=.type "tuple",data:=.seq rest.toArray}:=by subst m l;exact Λ _ (Heap.get?_push_at rfl rfl)
 have s:=i _ _ c;have I:f.Ns N n:=u.keeps i;have J:=T.keeps i;have self:(Ξ.ref C::bm).contains (.ref C)=Γ:=by simp
 unfold isInstance
 repeat (first|with_reducible refine wpAny_loadPart_at p ?_|(with_reducible refine wpAny_isSubtype_exc s ?_;rw[self])|wp_step)
 show wpAny _ _ (typeLookup (.ref C) _) _ _ _;refine wpAny_typeLookup_tail s I J F.mroIs F.init.lookup ?_;rw[v];refine ϓ (Θ ?_);unfold bindSpecial;refine Θ (wpAny_typeOf (T:="function") ⟨_,i _ _ j,k⟩ ?_);rw[if_pos (by decide)];refine Ω (Θ (Τ (G f (h.objs.size+1) ⟨i,Heap.get?_none_of_le (le_succ _),h.objs.size,p,Heap.get?_none_of_le (le_refl _),gt⟩ (le_succ _)) (λr s' L=>?_) λ_ _ x=>x));let⟨rfl,M⟩:=L
 wp_walk
 exact M
def zmo(F:ExcBaseFacts B newId initId bmB)(T:OwnTail h bmB bm)(b:h.get? C=Φ (excClassObj nm q C N bs bm hdct sn sub ab col dd k0 k1 k2 k3 k5 newId))(i:h.Ns N j)(k:j "__init__"=Φ (.ref fI))(c:h.get? fI=Φ l)(f:l.cls=.type "function")(m:∀h' e,Heap.MadeExcOf h h' e (.ref C) rest->h.objs.size<=e->wpAny (model prog w) (A.under (.builtin "type.__call__" ⟨.ref C::rest,[]⟩)) (call (.ref fI) (.ref e::rest)) (λr s'=>r=.none/\Q (.ref e) s') E ⟨h',g,d,t,os⟩)(a:rest.length<=sizeLine):
  wpAny (model prog w) A (call (.ref C) rest) Q E ⟨h,g,d,t,os⟩:=by
 have s:=tc_lookup;have u:=tc_bind (.ref C);refine ϟ (codeAny_of_tree ?_);show wpAny _ _ (callAny (.ref C) _) _ _ _
 repeat (any_goals (first|assumption|with_reducible refine wpAny_loadPart_at b ?_|wp_step))
 exact⟨rfl,codeAny_call_builtin_at (Code.quiet_builtin _ (by decide +kernel)) entry_typeCall (wpAny_check_type_call_sub b (zmr F T b i k c f (λh' e o p=>(m h' e o p)) a))⟩
end
noncomputable abbrev newX(C:Ξ)(a:Option Addr)(t:Addr):Obj:={cls:=C,dict:=a,data:=.fields #[.ref t,.none,.none,.none,.bool Δ,.none]}
section
variable{prog:Ο}{w:ϋ}{A:ϐ}{E:Ξ->Ζ->Prop}{h:Heap}{g:Array GenState}{d:Drawn}{t:Nat}{os:OsState}
variable{nm q:Str}{C N:Addr}{bs bm bmB:List Ξ}{hdct:Bool}{sn:List Str}{sub:List Ξ}{ab:Bool}{col:Option Bool}{dd:Option Addr}{k0 k1 k2 k3 k5:Option Ξ}{B newId initId:String}
def zmq(F:ExcBaseFacts B newId initId bmB)(T:OwnTail h bmB bm)(c:h.get? C=Φ (excClassObj nm q C N bs bm hdct sn sub ab col dd k0 k1 k2 k3 k5 newId))(a:h.get? e=Φ (newX (.ref C) Ψ k))(f:∀h' i,(∀b o,b≠e->h.get? b=Φ o->h'.get? b=Φ o)->h'.get? e=Φ (newX (.ref C) Ψ i)->Q .none ⟨h',g,d,t,os⟩):
  wpAny (model prog w) A (call (.builtin initId) [.ref e,v]) Q E ⟨h,g,d,t,os⟩:=by
 refine ϟ (codeAny_call_builtin F.init.plain F.initEntry (wpAny_check_init_subT F T c a rfl ?_))
 wp_walk
 refine f _ h.objs.size (λb o j q=>?_) ?_;rw[Ρ _ _ (Ne.symm j)];exact Λ _ q;exact ϑ _ (Λ _ a) rfl
end
end R
namespace R
open PySem PySem.W PySem.Builtin.Object
section
variable{prog:Ο}{w:ϋ}{A:ϐ}{E:Ξ->Ζ->Prop}{s:Ζ}{K:Frag}{x C:Addr}{ox:Obj}{name:Str}{v:Ξ}
abbrev zjr:List Ξ->Bool
 |.ref _::l=>zjr l| [.type a,.type b,.type c,.type d]=>a=="ValueError"&&(b=="Exception"&&(c=="BaseException"&&d=="object"))|_=>Δ
def zhh{l:List Ξ}(e:zjr l=Γ):(∀self:Ξ,refuseLoop self "__setattr__" l=pure ())/\l.contains (.type "object")=Γ/\l.isEmpty=Δ:=by
 induction l with|nil=>exact nB e|cons v l h=>_
 cases v with|ref c=>let⟨a,b,_⟩:=h e;exact⟨λself=>(refuseLoop_ref self _ c l).trans (a self),by rw[Ϣ,b,Bool.or_true],rfl⟩|type a=>_|_=>exact nB e
 rcases l with _|⟨b,l⟩;exact nB e;cases b with|type b=>_|_=>exact nB e
 rcases l with _|⟨c,l⟩;exact nB e;cases c with|type c=>_|_=>exact nB e
 rcases l with _|⟨d,l⟩;exact nB e;cases d with|type d=>_|_=>exact nB e
 cases l with|nil=>_|cons _ _=>exact nB e
 replace e:(_&&(_&&(_&&_)))=Γ:=e;simp![Ε,beq_iff_eq]at e;let⟨rfl,rfl,rfl,rfl⟩:=e;exact⟨PySem.F.store_ValueError.passes,by simp,rfl⟩
abbrev zjP(K:Frag)(C:Addr):Bool:=match clsIn K C with|some a=>zjr a.mro|none=>Δ
def zoI(X:K.In s.heap)(J:InstAt s.heap x ox C od)(a:zjP K C=Γ)(g:findIn K (.ref C) name=Φ Ψ)(h:wpAny (model prog w) A.in1 (Builtin.ObjectAttr.storeInOwnDict (.ref x) (.ref C) (.str name b) name v Δ)
   (λfin s'=>match fin with|.done f=>R (.ok f) s'|.again c=>c.quiet=Γ/\codeAny (model prog w) A c R s') (λe s'=>R (.error e) s') s):
  codeAny (model prog w) A (.call (.builtin "object.__setattr__") ⟨[.ref x,.str name b,v],[]⟩) R s:=by
 unfold zjP at a;split at a
 case h_2=>exact nB a
 rename_i i d;let⟨j,k,l⟩:=zhh a;have st:=PySem.F.store_object;have m:Looks (model prog w) s.heap (isInstance (.ref x) (.type "object")) Γ:=by refine J.type.andThen (looks_mroIn X ?_);unfold mroIn;rw[d,Ϛ,if_neg (by rw[l];decide),k]
 refine codeAny_call_builtin st.slot.plain st.entry (@check_slot (model prog w) _ _ s _ _ _ _ [.str name b,v] [] _ st.kind st.split m (st.args _ _ _) ?_);have n:Looks (model prog w) s.heap (mroOf (.ref C)) i.mro:=(looks_clsIn X d).andThen .now;rw[osa_eq,refuse_eq];refine Θ (Θ (J.type.here (Θ (n.here ?_))));rw[j];exact Ω (Θ (J.type.here (Θ ((looks_findIn X g).here (Θ (Ω h))))))
def zkK(X:K.In s.heap)(c:s.heap.get? x=Φ ox)(j:ox.cls=.ref C)(hd:ox.data=.fields vs)(k:ox.dict=Ψ)(hs:findIn K (.ref C) "__setattr__"=Φ (Φ (.builtin "object.__setattr__")))(G:zjP K C=Γ)(H:findIn K (.ref C) name=Φ Ψ)(I:hasDictIn K C=Γ)(h:∀h',h'.get? x=Φ {ox with dict:=Φ s.heap.objs.size}->h'.Ns1 s.heap.objs.size (λy=>if y=name then Φ v else Ψ)->(∀b o,b≠x->s.heap.get? b=Φ o->h'.get? b=Φ o)->Q () {s with heap:=h',toks:=s.toks+2}):
  wpAny (model prog w) A (setAttr (.ref x) name v) Q E s:=by
 have J:InstAt s.heap x ox C Ψ:=⟨c,j,by unfold notCls;rw[hd],by rw[k];trivial⟩;refine set_plain X J hs (zoI X J G H ?_);let⟨cd,L,l⟩:=any_some I;let⟨a,g,d,t,os⟩:=s;let⟨oc,od,M,m⟩:=ox;subst j hd k;refine Θ (Ω (Θ (Θ (wpAny_loadPart c (Θ (Looks.here (looks_clsIn X L) ?_))))));rw[l];have f:(a.push {cls:=.type "dict",data:=.dict #[]}).get? x=Φ _:=Λ _ c;have B:=ne_of_lt (Β c);refine Θ (wpAny_alloc' (Θ (wpAny_update' f (Ω ?_))));generalize n:(a.push {cls:=.type "dict",data:=.dict #[]}).update x (λo=>{cls:=o.cls,dict:=Φ a.objs.size,data:=o.data,slots:=o.slots})=p;have N:p.get? a.objs.size=Φ {cls:=.type "dict",data:=.dict #[]}:=by subst n;exact(Heap.get?_update_ne _ _ _ _ B.symm).trans (Heap.get?_push_at rfl rfl)
 have O:p.get? x=Φ {cls:=.ref C,dict:=Φ a.objs.size,data:=.fields vs,slots:=m}:=by subst n;exact ϑ _ f rfl
 have T:p.Ns a.objs.size (λ_=>Ψ):=⟨_,#[],_,N,rfl,λe c=>absurd c (by simp),λ_=>rfl⟩;refine Θ (Ω (Θ (wpAny_nsSet1 (Heap.Ns1.of_empty T) λh' i hs=>?_)));let⟨oD,U,Y,r,u,z⟩:=i.count (Within.cons name v Within.nil);refine Θ (wpAny_lookBehind r (by rw[u];exact pastItsLine_dict (le_trans z (by rw[ϊ,length_nil];lia))) (Ω (h h' ?_ i λb o hb q=>?_)));exact(hs.2 x B).trans O;subst n;exact(hs.2 b (ne_of_lt (Β q))).trans ((Heap.get?_update_ne _ _ _ _ hb).trans (Λ _ q))
def zhQ(X:K.In s.heap)(I:InstAt s.heap x ox C od)(l:findIn K (.ref C) "__getattribute__"=Φ (Φ (.builtin "BaseException.__getattribute__")))(m:findIn K (.ref C) "__getattr__"=Φ Ψ)(h:mroIn K C (.type "BaseException")=Φ Γ)(y:wpAny (model prog w) A.in1 (Builtin.«object.__getattribute__» ⟨[.ref x,.str name b],[]⟩) (λfin s'=>match fin with|.done (.ret u)=>wpAny (model prog w) A (handedOut u) Q E s'|_=>False) (λ_ _=>False) s):
  wpAny (model prog w) A (getAttrBy (.ref x) (.str name b) fill a) Q E s:=by
 let⟨i,g,d,t,os⟩:=s;have o:=I.type (M:=model prog w);have B:=looks_findIn (M:=model prog w) X l;have L2:=looks_findIn (M:=model prog w) X m;have G:=looks_mroIn (M:=model prog w) X h;unfold getAttrBy;refine ϓ (Θ (o.at (Θ (B.at ?_))));unfold getAttrByItsOwn hookBefore;refine Θ (L2.at (Θ (wpAny_attempt (ϓ ?_))));have H:(a&&onTheHeap (Ξ.builtin "BaseException.__getattribute__"))=Δ:=by cases a<;>rfl
 unfold callGetattribute;rw[H,if_neg (by decide)];unfold boundAndCalled;refine Θ (wpAny_of_eq (F.attr_ValueError.ga.bind _) (ϟ (codeAny_call_builtin F.attr_ValueError.ga.plain F.entry_bexc_ga ?_)));have J:builtinKind "BaseException.__getattribute__"=Φ .slot:=by decide +kernel
 have n:splitId "BaseException.__getattribute__"=Φ ("BaseException","__getattribute__"):=by decide +kernel
 have p:=F.args_bexc_ga (.ref x) (.str name b);simp![checkBuiltinCall,J,n];have L:Looks (model prog w) i (isInstance (.ref x) (.type "BaseException")) Γ:=o.andThen G;refine Θ (L.at ?_);rw[if_neg (by decide)];have c:wpAny (model prog w) A.in1 (Builtin.«object.__getattribute__» ⟨[.ref x,.str name b],[]⟩) (λfin s'=>match fin with|.done f=>(match (Except.ok f:Result) with|.ok (.ret u)=>wpAny (model prog w) A (handedOut u) Q E s'|.ok _=>False|.error e=>wpAny (model prog w) A (getattributeRaised (.ref x) (.str name b) (.ref C) e Ψ fill a) Q E s')|.again q=>q.quiet=Γ/\codeAny (model prog w) A q (λr s'=>match r with|.ok (.ret u)=>wpAny (model prog w) A (handedOut u) Q E s'|.ok _=>False|.error e=>wpAny (model prog w) A (getattributeRaised (.ref x) (.str name b) (.ref C) e Ψ fill a) Q E s') s')
   (λe s'=>wpAny (model prog w) A (getattributeRaised (.ref x) (.str name b) (.ref C) e Ψ fill a) Q E s') ⟨i,g,d,t,os⟩:=by
  refine Τ y (λfin s' z=>?_) λ_ _ z=>z.elim;rcases fin with (_|_|_|u)|_
  all_goals first|exact z.elim|exact z
 cases j:Manifest.signature? "BaseException.__getattribute__" with|none=>exact Ω c| some k=>simp![argsOk,j]at p;have N:Bind.checkArgs "BaseException.__getattribute__" k ⟨[.ref x]++[.str name b],[]⟩=pure ():=p;show wpAny _ _ (Bind.checkArgs "BaseException.__getattribute__" k ⟨[.ref x]++[.str name b],[]⟩) _ _ _;rw[N];exact Ω c
def zmp(X:K.In s.heap)(I:InstAt s.heap x ox C od)(b:findIn K (.ref C) "__getattribute__"=Φ (Φ (.builtin "BaseException.__getattribute__")))(c:findIn K (.ref C) "__getattr__"=Φ Ψ)(a:mroIn K C (.type "BaseException")=Φ Γ)(hf:findObj K C od name=Φ (.value v))(e:handedIn v=Γ)(h:Q v {s with toks:=s.toks+1}):
  wpAny (model prog w) A (getAttr (.ref x) name d) Q E s:=by
 have f:=I.type (M:=model prog w);have g:=looks_find (M:=model prog w) X I hf;refine Θ (wpAny_mkText (zhQ X I b c a ?_));refine Θ (Ω (Θ (Ω (Θ (f.at (Θ (g.at (Ω ?_))))))));show wpAny _ _ (handedOut v) _ _ _;rw[handedOut_of e];exact Ω h
def zkL(X:K.In s.heap)(I:InstAt s.heap x ox C (Φ od))(c:findIn K (.ref C) "__getattribute__"=Φ (Φ (.builtin "BaseException.__getattribute__")))(d:findIn K (.ref C) "__getattr__"=Φ Ψ)(a:mroIn K C (.type "BaseException")=Φ Γ)(b:hasDictIn K C=Γ)(f:findIn K (.ref C) "__class__"=Φ (Φ (.builtin "object.__class__")))(g:specialIn K (.builtin "object.__class__") "__get__"=Φ (Φ (.builtin "getset_descriptor.__get__")))(e:takesIn K (.builtin "object.__class__")=Φ Γ)(i:mroIn K C (.type "object")=Φ Γ)(h:Q (Φ (.ref C)) {s with toks:=s.toks+1}):wpAny (model prog w) A (getAttr? (.ref x) "__class__") Q E s:=by
 have j:findObj K C (Φ od) "__class__"=Φ (.bind (.builtin "getset_descriptor.__get__") (.builtin "object.__class__")):=findObj_data (by let⟨n,k,_⟩:=any_some b;rw[k];rfl) f g e;have l:=I.type (M:=model prog w);have m:=looks_find (M:=model prog w) X I j;refine Θ (wpAny_mkText ?_);refine Θ (wpAny_attempt (zhQ X I c d a ?_));refine Θ (Ω (Θ (Ω (Θ (l.at (Θ (m.at ?_)))))));refine Θ (ϓ (ϟ (class_get X I i ?_)));refine Ω ?_;show wpAny _ _ (handedOut (.ref C)) _ _ _;exact Ω (Ω h)
def zpn(c:findIn K (.ref C) "__getattribute__"=Φ (Φ (.builtin "BaseException.__getattribute__")))(d:findIn K (.ref C) "__getattr__"=Φ Ψ)(b:mroIn K C (.type "BaseException")=Φ Γ)(a:hasDictIn K C=Γ)(l:findIn K (.ref C) "__class__"=Φ (Φ (.builtin "object.__class__")))(m:specialIn K (.builtin "object.__class__") "__get__"=Φ (Φ (.builtin "getset_descriptor.__get__")))(f:takesIn K (.builtin "object.__class__")=Φ Γ)(o:mroIn K C (.type "object")=Φ Γ):
  KitX K (.ref x) (.ref C) (λh=>InstAt h x ox C (Φ od)):=by
 let⟨t,g,_⟩:=any_some a;unfold clsIn at g;split at g;rename_i j;refine⟨λ_ _ _ I=>I.type,λ_ _ X _ u y B G k q=>Θ (wpAny_loadPart (k _ _ (X _ _ j)) (Ω q)),λh p H r n J X i=>Bool.eq_false_iff.mpr λq=>?_,λX I k=>zkL X I c d b a l m f o k⟩;have e:=Ξ.ref.inj (beq_iff_eq.mp q);subst e;have z:=(X _ _ j).symm.trans i;cases z;exact nS g
end
end R
namespace R
open PySem PySem.Spec PyProof.Rows L2
noncomputable abbrev XN(a C:Addr):HO:=.ext λh=>∃t,h.get? a=Φ (newX (.ref C) Ψ t)
noncomputable abbrev XD(a C b:Addr):HO:=.ext λh=>∃t,h.get? a=Φ (newX (.ref C) (Φ b) t)
noncomputable abbrev XO(a C c:Addr):HO:=.ext λh=>∃b d,h.get? a=Φ ⟨.ref C,Φ c,.fields b,d⟩/\1<b.size
structure Fly(lo:Nat)(H:Hp)(h:Heap)(a:Addr):Prop where
 ex:∃C dx vs sl,H a=Φ (XO a C dx)/\h.get? a=Φ ⟨.ref C,Φ dx,.fields vs,sl⟩/\Trc h a vs lo/\∀T,vs[1]?=Φ (.ref T)->H T=Ψ
 lo:lo<=a
def XO.ok(e:h.get? a=Φ ⟨.ref C,Φ c,.fields vs,b⟩)(z:1<vs.size):ObjOk P w H h a (XO a C c):=⟨⟨vs,b,e,z⟩,⟨_,e⟩,λd f y k=>(by let⟨vs,b,e,z⟩:=y;exact ⟨vs,b,k _ e,z⟩)⟩
def XD.ok(e:h.get? a=Φ (newX (.ref C) (Φ b) t)):ObjOk P w H h a (XD a C b):=⟨⟨t,e⟩,⟨_,e⟩,λc d z k=>(by let⟨t,e⟩:=z;exact ⟨t,k _ e⟩)⟩
def XN.ok(e:h.get? a=Φ (newX (.ref C) Ψ t)):ObjOk P w H h a (XN a C):=⟨⟨t,e⟩,⟨_,e⟩,λb c z k=>(by let⟨t,e⟩:=z;exact ⟨t,k _ e⟩)⟩
abbrev CXe(P:Ο)(w:ϋ):CXT:=λb H s E e c=>∃a d,e=.ref a/\c.os=s.os/\AllBare c.gens/\Un (frs b) [] H d s.heap c.heap/\HOk P w d c.heap/\Fly s.heap.objs.size d c.heap a/\E (.ref a) Ψ d
def Fly.mono{lo b}(f:Fly lo H h a)(l:b<=lo):Fly b H h a:=by let⟨C,c,d,e,g,i,j,k⟩:=f.ex;refine⟨⟨C,c,d,e,g,i,?_,k⟩,le_trans l f.lo⟩;rcases j with t|⟨T,m,n,o,p,q,r,s,u⟩;exact .inl t;exact .inr ⟨T,m,n,o,p,q,r,s,le_trans l u⟩
section
variable{X:Cx}{pins:List (Addr×Obj)}{σ:L2.St}{H:Hp}{s:Ζ}{a:Addr}{lo:Nat}{h':Heap}
def zcy(I:Inv X pins σ H s)(stk:X.stack=X.env::X.outer)(fr:X.env.frame=Φ X.env.locals)(f:Fly lo H s.heap a)(l:X.s₀.heap.objs.size<=lo)(hp:∀p∈X.pn++pins,p.1<lo)(he:s.heap.get? a=Φ oe)(hd:oe.data=.fields vs)(n:Ntd ((X.env::X.outer).filterMap (·.frame)) a oe vs lo s.heap h'):Inv X pins σ H {s with heap:=h'}/\Fly lo H h' a:=by
 let⟨C,dx,g,sl,B,h2,tr,h4⟩:=f.ex;rw[he]at h2;cases h2;obtain rfl:g=vs:=by simpa using hd
 let⟨G,e1,e2,J,L⟩:=n.exc;have h:frs X.stack=(X.env::X.outer).filterMap (·.frame):=by rw[stk];rfl
 have M:∀b,H b≠Ψ->b∉(X.env::X.outer).filterMap (·.frame):=λb d k=>d (I.stkFree b (by rw[h];exact k));have nT:∀b,H b≠Ψ->g[1]?≠Φ (.ref b):=λb d z=>d (h4 b z);have N:1<g.size:=by rcases tr with t|⟨T,_,_,t,_⟩<;>exact(Array.getElem?_eq_some_iff.mp t).1
 have O:HOk X.prog X.w H h':=λb u e=>by
  by_cases d:b=a;subst d;rw[B]at e;cases e;exact XO.ok e1 (by rw[e2];exact N);refine(I.hok b u e).stay (λc v w q=>?_) (λ_ q=>q) λ_ _ q=>q;have A:H c≠Ψ:=by rcases w with z|z<;>(first|(rw[z,e];simp)|(rw[z];simp))
  refine n.keep c v (λz=>?_) (nT c A) (M c A) q;rcases w with y|y;exact d (y.symm.trans z);rw[z,B]at y;cases y
 have ch:∃ch:List Addr,(∀b∈ch,(b∈X.ex\/X.s₀.heap.objs.size<=b)/\b≠X.env.locals/\(∀x c,X.env.cells.lookup x=Φ c->c≠b)/\∀p∈X.pn++pins,p.1≠b)/\∀b,b∉ch->g[1]?≠Φ (.ref b):=by rcases tr with t|⟨T,oT,ts,t1,t2,Q,E,t5,t6⟩;exact⟨[],(λ_ z=>by cases z),λb _ z=>by rw[t]at z;cases z⟩;refine⟨[T],λb d=>?_,λb d z=>d (by rw[t1]at z;cases z;exact mem_singleton.mpr rfl)⟩;have e:=mem_singleton.mp d;subst e;refine⟨.inr (le_trans l t6),λz=>?_,λx c e z=>?_,λp U z=>?_⟩;let⟨m,⟨o,es,ep,j,i,_⟩,_⟩:=I.loc;rw[z,j]at Q;cases Q;rw[i]at E;cases E;let⟨v,o,j,i⟩:=I.cell x c e;rw[z,Q]at j;cases j;rw[i]at E;cases E;exact absurd (hp p U) (by rw[z];exact Nat.not_lt.mpr t6)
 let⟨ch,c1,c2⟩:=ch;refine⟨I.step c1 (λb o hL Y w q hn=>?_) (λb o hL Y w q hn=>?_) (λ_ _ _ _ q=>q) (λb o _ q=>n.there b o q) (λ_ _ q=>q) (λ_ _ _ q=>q) (λb ps q=>⟨#[],by rw[q];simp⟩) (λm k=>?_) O I.bare,⟨C,dx,G,sl,B,e1,.inr J,?_⟩,f.lo⟩;refine n.keep b o (λz=>by rw[z,B]at hn;cases hn) (c2 b w) (λk=>?_) q;have:=I.stkSub b (by rw[h];exact k);rcases mem_cons.mp this with z|z;exact hL z;exact Y z;refine n.slot b o ?_ q;rw[List.filterMap_cons,fr];exact Μ _ Y;let⟨o,es,ep,j,r⟩:=k;let⟨sl',q⟩:=n.slot X.env.locals o (by rw[List.filterMap_cons,fr];exact Ν) j;exact⟨_,es,ep,q,r⟩;intro T hT;rcases L T hT with z|z;exact I.hok.fresh z;exact h4 T z
def zj9{K}(I:Inv (cxOf (CXe P w) P w K d base N b scope f e A outer s₀ H₀ E) pins σ H s)(g:Fly s₀.heap.objs.size H s.heap a)(hE:E (.ref a) Ψ H):(cxOf (CXe P w) P w K d base N b scope f e A outer s₀ H₀ E).xe (.ref a) s:=by
 have J:Inv (cxOf (CXe P w) P w K d base N b scope f e A outer s₀ H₀ E) [] σ H s:=I.pins_of λp z=>nomatch z;let⟨C,k,l,m,o,h,i,q⟩:=id g.ex;refine Θ (zhp J.ok.frames J.stack rfl h rfl i J.sz λh' n=>?_);let⟨c,j⟩:=zcy J rfl rfl g (le_refl _) (λp z=>absurd (show p∈([]:List (Addr×Obj)) from z) (by simp)) h rfl n;exact⟨a,H,rfl,c.os,c.bare,c.base,c.hok,j,hE⟩
end
noncomputable abbrev bmV:List Ξ:=[.type "ValueError",.type "Exception",.type "BaseException",.type "object"]
abbrev excJ(K:PySem.W.Frag)(C fI:Addr):Bool:=match K.lookup C with
 |some ⟨.type t,_,.cls a,b⟩=>t=="type"&&(match a.mro,b.toList with
  |.ref D::c,[_,_,_,_,Φ (.builtin n),_]=>D==C&&(n=="ValueError.__new__"&&(!a.hasDel&&(PySem.W.tailIn K bmV c&&(PySem.W.nsOkIn K a.ns&&nsIn K a.ns "__init__" == Φ (Φ (.ref fI))))))|_,_=>Δ)
 |_=>Δ
structure XcAt(h:Heap)(C fI:Addr):Prop where
 ex:∃(nm q:Str) (N:Addr) (bs bm:List Ξ) (hdct:Bool) (sn:List Str) (sub:List Ξ) (ab:Bool) (col:Option Bool) (dd:Option Addr) (k0 k1 k2 k3 k5:Option Ξ) (mN:Str->Option Ξ),
  h.get? C=Φ (excClassObj nm q C N bs bm hdct sn sub ab col dd k0 k1 k2 k3 k5 "ValueError.__new__")/\h.Ns N mN/\mN "__init__"=Φ (.ref fI)/\OwnTail h bmV bm
def zoN{K}(X:K.In h)(G:h.Ns N m)(e:nsIn K N x=Φ (Φ v)):m x=Φ v:=by
 let⟨o,f,g,a,b,_,c⟩:=G;unfold nsIn at e;split at e;rename_i d;have:=X _ _ d;rw[a]at this;cases this;cases b;split at e;rename_i q;cases e;rw[<-c];unfold nsFind findBy;rw[<-Array.find?_toList,q];rfl
 . split at e<;>cases e
 exact nS e
def zns{K}(X:K.In h)(q:excJ K C fI=Γ):XcAt h C fI:=by
 cases k:K.lookup C with|none=>_|some o=>_
 unfold excJ at q;rw[k]at q;exact nB q
 unfold excJ at q;rw[k]at q;let⟨x,g,d,j⟩:=o;cases x with|type t=>_|_=>exact nB q
 cases d with|cls i=>_|_=>exact nB q
 replace q:=qa1 q;let⟨e,q⟩:=q;cases beq_iff_eq.mp e;let⟨v,w,x,y,z,A,B,sub,E,c,G⟩:=i;let⟨l⟩:=j
 rcases x with _|⟨x,m⟩;exact nB q
 cases x with|ref D=>_|_=>exact nB q
 rcases l with _|⟨o,_|⟨p,_|⟨r,_|⟨s,_|⟨_|n,l⟩⟩⟩⟩⟩<;>try exact nB q
 cases n with|builtin n=>_|_=>exact nB q
 rcases l with _|⟨t,_|_⟩;exact nB q;rotate_left;exact nB q
 replace q:=qa1 q;let⟨d,q⟩:=q;let⟨i,j⟩:=qa1 q;let⟨a,j⟩:=qa1 j;let⟨u,j⟩:=qa1 j;let⟨b,j⟩:=qa1 j;cases beq_iff_eq.mp d;cases beq_iff_eq.mp i;cases G;rotate_left;exact nB a;have f:=beq_iff_eq.mp j;exact⟨v,z,y,w,m,A,B,sub,E,c,g,o,p,r,s,t,_,X _ _ k,.of_isNs (PySem.W.isNs_of_in X b),zoN X (.of_isNs (PySem.W.isNs_of_in X b)) f,PySem.W.tail_of_in X u⟩
structure Xc(K:PySem.W.Frag)(C fI:Addr)(f:Str):Prop where
 ex:excJ K C fI=Γ
 fn:isFn K (.ref fI)=Γ
 sa:PySem.W.findIn K (.ref C) "__setattr__"=Φ (Φ (.builtin "object.__setattr__"))
 po:zjP K C=Γ
 hd:PySem.W.hasDictIn K C=Γ
 no:NoAttr K C f
section
variable{X:Cx}{pins:List (Addr×Obj)}{σ:L2.St}{H:Hp}{s:Ζ}{e C fI:Addr}{f:Str}
def zp7(h:H a=Φ o):upd H a o=H:=by funext b;unfold upd;split;rename_i z;rw[z,h];rfl
def zpf(I:Inv X pins σ H s)(x:excJ X.K C fI=Γ)(a:H e=Φ (XN e C))(h:∀s',Inv X pins σ H s'->Q .none s'):
  wpAny (model X.prog X.w) X.A (call (.builtin "ValueError.__init__") [.ref e,v]) Q X.xe s:=by
 let⟨n,q,N,p,r,c,u,sub,w,j,y,z,i,b,A,B,E,k,G,J,T⟩:=(zns I.kIn x).ex;let⟨⟨t,l⟩,_⟩:=(show ObjOk X.prog X.w H s.heap e (XN e C) from I.hok e _ a);let⟨L,g,d,m,os⟩:=s;refine zmq F.excBase_ValueError T k l λh' M i b=>h _ ?_;have:=I.write (t':=m) (by rw[a];exact True.intro) (.inl rfl) i ⟨_,b⟩ (XN.ok b);rw[zp7 a]at this;exact this
def zpF(I:Inv X pins σ H s)(c:Xc X.K C fI f)(d:H e=Φ (XN e C))(M:RelV v u)(h:∀l od s',H l=Ψ->l≠e->Inv X pins σ (upd (upd H l (.frz od (.xd [(f,v)]))) e (XD e C l)) s'->Q () s'):wpAny (model X.prog X.w) X.A (setAttr (.ref e) f u) Q X.xe s:=by
 let⟨⟨t,B⟩,_⟩:=(show ObjOk X.prog X.w H s.heap e (XN e C) from I.hok e _ d);have N:=Β B;refine zkK I.kIn B rfl rfl rfl c.sa c.po c.no c.hd λO E G m=>?_;let⟨od,es,ep,T,r⟩:=id G;have U:=ne_of_gt N;refine h s.heap.objs.size od _ (I.hok.fresh (le_refl _)) U ?_
 have Y:Un X.fs [] H (upd (upd H s.heap.objs.size (.frz od (.xd [(f,v)]))) e (XD e C s.heap.objs.size)) s.heap O:=by refine⟨λb o q n _ _=>m b o (λz=>by rw[z,d]at n;cases n) q,λb o q n _ _=>⟨o.slots,m b o (λz=>by rw[z,d]at n;cases n) q⟩,λb o q n _=>?_,λb o q _=>?_,λb xs q=>?_,λb o u q=>?_,λb ps q=>?_⟩;rw[zaf (λz=>by rw[z,d]at n;cases n),zaf (ne_of_lt (Β q))];exact n;by_cases j:b=e;subst j;exact⟨_,E⟩;exact⟨o,m b o j q⟩;have k:=I.hok.lt q;rw[zaf (λz=>by rw[z,d]at q;cases q),zaf (ne_of_lt k)];exact q;have k:=I.hok.lt q;rw[zaf (λz=>by rw[z,d]at q;cases q),zaf (ne_of_lt k)];exact q;have k:=I.hok.lt q;refine⟨#[],?_⟩;rw[zaf (λz=>by rw[z,d]at q;cases q),zaf (ne_of_lt k),q];simp
 refine I.un Y λb o q=>?_;by_cases j:b=e;subst j;rw[zag]at q;cases q;exact XD.ok E;rw[zaf j]at q;by_cases L:b=s.heap.objs.size;subst L;rw[zag]at q;cases q;refine⟨T,_,G,λg=>?_⟩;by_cases x:g=f;subst x;simp[RelO,M];have:(g==f)=Δ:=by simpa using x
 simp[RelO,List.lookup,this,x];rw[zaf L]at q;refine(I.hok b o q).stay (λc w a qc=>m c w (λz=>?_) qc) (λc a=>?_) λc xs a=>?_;rcases a with y|y;exact j (y.symm.trans z);rw[z,d]at y;cases y;have A:=I.hok.lt a;rw[zaf (λz=>by rw[z,d]at a;cases a),zaf (ne_of_lt A)];exact a;have A:=I.hok.lt a;rw[zaf (λz=>by rw[z,d]at a;cases a),zaf (ne_of_lt A)];exact a
end
structure XUp(K:PySem.W.Frag)(mg:Str->Option Ξ)(xR:Str):Prop where
 ex:∃CR:Addr,mg xR=Φ (.ref CR)/\specialIn K (.ref CR) "__getattribute__"=Φ (Φ (.builtin "type.__getattribute__"))/\readsIn K CR (.type "type")=Γ/\findCls K (.ref CR) (.type "type") "__init__"=Φ (.val (.builtin "ValueError.__init__"))
structure XSt(st:Stmt)(xR y f:Str):Prop where
 body:∃(txt:Str) (j:Nat) (p1 p2 p3 p4 p5 p6 p7 p8 p9 p10:Pos),zal st=[.Expr (.Call (.Attribute (.Name xR p1) "__init__" p2) [.Name "self" p3,.Constant (.str txt) j p4] [] p5) p6,.Assign [.Attribute (.Name "self" p7) f p8] (.Name y p9) p10]/\(p2.endLine==p5.line)=Γ
 sc:FnScope ["self",y] ["self",y] (zac st)
 v1:(zac st).names.lookup ("self":Str)=Φ .local
 v2:(zac st).names.lookup y=Φ .local
 gl:(zac st).names.lookup xR=Φ .globalImplicit
 n1:(xR==("__debug__":Str))=Δ
 n2:(y==("__debug__":Str))=Δ/\(y==("__classdict__":Str))=Δ
abbrev spI(K:PySem.W.Frag)(fI:Addr)(f:Str):Sp:=λb H Q _=>∃e C v,b=[.ref e,v]/\H e=Φ (XN e C)/\Xc K C fI f/\∀a c,H a=Ψ->a≠e->Q .non (upd (upd H a (.frz c (.xd [(f,v)]))) e (XD e C a))
structure XGet(K:PySem.W.Frag)(C:Addr):Prop where
 ga:PySem.W.findIn K (.ref C) "__getattribute__"=Φ (Φ (.builtin "BaseException.__getattribute__"))
 gh:PySem.W.findIn K (.ref C) "__getattr__"=Φ Ψ
 sb:PySem.W.mroIn K C (.type "BaseException")=Φ Γ
 hd:PySem.W.hasDictIn K C=Γ
end R
namespace R
open PySem L2
abbrev KL(K:PySem.W.Frag)(a:Addr)(xs:List V):Prop:=∃(o:Obj) (b:Array Ξ) (n:Nat),K.lookup a=Φ o/\o.cls=.type "list"/\o.dict=Ψ/\o.data=.seq b n/\b.size<=sizeLine/\Vals xs b.toList
abbrev FixL(K:PySem.W.Frag)(H:Hp)(a:Addr)(xs:List V):Prop:=(∃o,H a=Φ (.frz o (.lst xs)))\/KL K a xs
def FixL.sq(h:FixL K H a xs):SqL K H a xs:=h.elim (λz=>(by let⟨o,e⟩:=z;exact .inl (.inr ⟨o,e⟩))) .inr
class Mks where
 ts:List (Addr×Str)
 cl:List Addr
 xc:List Addr:=[]
variable[Mks]
abbrev TabIn(H:Hp)(P:Addr)(q:Str):Prop:=∃a:Array Ξ,H P=Φ (.tbl a)/\TriplesOk a.toList/\
 ∀(pos:Pos)(v:Ξ),codeAmong pos a.toList=Φ v->∃(c:Addr) (b:Obj) (d:Array Ξ) (t:Tok),v=.ref c/\H c=Φ (.frz b (.own 0))/\b.data=.fields d/\d[1]?=Φ (.str q t)
def TabIn.up(t:TabIn H P q)(e:H' P=H P)(f:∀b o u,H b=Φ (.frz o u)->H' b=Φ (.frz o u)):TabIn H' P q:=by let⟨a,d,g,h⟩:=t;refine⟨a,by rw[e];exact d,g,λpos v i=>?_⟩;let⟨c,j,k,t,l,m,n⟩:=h pos v i;exact⟨c,j,k,t,l,f _ _ _ m,n⟩
abbrev TB(H:Hp):Prop:=∀p∈Mks.ts,TabIn H p.1 p.2
structure Kp(H H':Hp):Prop where
 tups:Tups H H'
 frzs:∀b o u,H b=Φ (.frz o u)->H' b=Φ (.frz o u)
 tab:TB H->TB H'
def Kp.refl(H):Kp H H:=⟨Tups.refl H,λ_ _ _ h=>h,λh=>h⟩
def Kp.trans(a:Kp H d)(b:Kp d e):Kp H e:=⟨a.tups.trans b.tups,λc o u h=>b.frzs c o u (a.frzs c o u h),λh=>b.tab (a.tab h)⟩
def Kp.same(a:Tups H H')(b:∀b o u,H b=Φ (.frz o u)->H' b=Φ (.frz o u))(c:∀P ps,H P=Φ (.tbl ps)->H' P=Φ (.tbl ps)):Kp H H':=⟨a,b,λh p d=>by let⟨ps,e,_⟩:=id (h p d);exact(h p d).up ((c _ _ e).trans e.symm) b⟩
def FixL.kp(h:FixL K H a xs)(k:Kp H H'):FixL K H' a xs:=h.elim (λz=>(by let⟨o,e⟩:=z;exact .inl ⟨o,k.frzs _ _ _ e⟩)) .inr
mutual
noncomputable def RV(K:PySem.W.Frag)(ι:List Addr)(H:Hp):D->V->Prop
 |.non,v=>v=.non|.bl b,v=>v=.bl b|.int i,v=>v=.int i|.str x,v=>v=.str x|.tup ds,v=>∃a xs,v=.ref a/\H a=Φ (.tup xs)/\RVs K ι H ds xs|.ref l,v=>∃a,ι[l]?=Φ a/\v=.ref a|.fix ds,v=>∃a xs,v=.ref a/\FixL K H a xs/\RVs K ι H ds xs
noncomputable def RVs(K:PySem.W.Frag)(ι:List Addr)(H:Hp):List D->List V->Prop
 | [],vs=>vs=[]|d::ds,vs=>∃v r,vs=v::r/\RV K ι H d v/\RVs K ι H ds r
end
abbrev RIs(K:PySem.W.Frag)(ι:List Addr)(H:Hp):List (Int×D)->List (Key×V)->Prop
 | [],a=>a=[]|(k,d)::r,a=>∃v w,a=((Sum.inl k:Key),v)::w/\RV K ι H d v/\RIs K ι H r w
abbrev RFs(K:PySem.W.Frag)(ι:List Addr)(H:Hp):List (Str×D)->List (Str×V)->Prop
 | [],a=>a=[]|(f,d)::r,a=>∃v w,a=(f,v)::w/\RV K ι H d v/\RFs K ι H r w
abbrev RO(K:PySem.W.Frag)(ι:List Addr)(H:Hp)(a:Addr):MO->Prop
 |.lst h=>∃g,H a=Φ (.lst g)/\RVs K ι H h g|.dic d=>(d.map (·.1)).Nodup/\∃b,H a=Φ (.dK b)/\RIs K ι H d b|.ins c f=>∃C e b,Mks.cl[c]?=Φ C/\H a=Φ (.ins C e b)/\RFs K ι H f b|.exc c f=>∃C e i b,Mks.xc[c]?=Φ C/\H a=Φ (XO a C e)/\H e=Φ (.frz i (.xd b))/\RFs K ι H f b
structure RH(K:PySem.W.Frag)(ι:List Addr)(H:Hp)(S:St):Prop where
 len:ι.length=S.len
 nd:ι.Nodup
 obj:∀l o,S.get l=Φ o->∃a,ι[l]?=Φ a/\RO K ι H a o
 tab:TB H
structure Ext(ι:List Addr)(H:Hp)(ι':List Addr)(H':Hp):Prop where
 pre:ι <+: ι'
 kp:Kp H H'
 rest:∀a o,a∉ι->H a=Φ o->(H' a=Φ o\/((∃ps,o=.tbl ps)/\∃ps,H' a=Φ (.tbl ps)))/\a∉ι'
def Ext.refl(ι)(H):Ext ι H ι H:=⟨ϛ _,Kp.refl H,λa o h e=>⟨.inl e,h⟩⟩
def Ext.trans(a:Ext ι H f j)(b:Ext f j g k):Ext ι H g k:=⟨a.pre.trans b.pre,a.kp.trans b.kp,λx o h e=>by let⟨c,i⟩:=a.rest x o h e;rcases c with c|⟨t,l,c⟩;exact b.rest x o i c;let⟨d,m⟩:=b.rest x _ i c;refine⟨.inr ⟨t,?_⟩,m⟩;rcases d with d|⟨_,d⟩;exact⟨l,d⟩;exact d⟩
def Ext.keep(x:Ext ι H b c)(h:a∉ι)(e:H a=Φ o)(n:∀ps,o≠.tbl ps):c a=Φ o:=(x.rest a o h e).1.elim id λk=>(by let⟨⟨ps,z⟩,_⟩:=k;exact absurd z (n ps))
def zbK(h:ι <+: b){l:Nat}{a:Addr}(e:ι[l]?=Φ a):b[l]?=Φ a:=by let⟨t,rfl⟩:=h;rw[getElem?_append_left (Α.mp e).1];exact e
mutual
theorem RV.up{K:PySem.W.Frag}{ι ι':List Addr}{H H':Hp}(hp:ι <+: ι')(hk:Kp H H'):∀{d:D}{v:V},RV K ι H d v->RV K ι' H' d v
 |.non,_,r=>r|.bl _,_,r=>r|.int _,_,r=>r|.str _,_,r=>r| .tup ds,_,r=>by let⟨a,xs,e,ha,q⟩:=r;exact⟨a,xs,e,hk.tups _ _ ha,RVs.up hp hk q⟩| .ref l,_,r=>by let⟨a,e,q⟩:=r;exact⟨a,zbK hp e,q⟩| .fix ds,_,r=>by let⟨a,xs,e,ha,q⟩:=r;exact⟨a,xs,e,ha.kp hk,RVs.up hp hk q⟩
theorem RVs.up{K:PySem.W.Frag}{ι ι':List Addr}{H H':Hp}(hp:ι <+: ι')(hk:Kp H H'):∀{ds:List D}{vs:List V},RVs K ι H ds vs->RVs K ι' H' ds vs
 | [],_,r=>r| d::ds,vs,r=>by let⟨v,w,e,r1,r2⟩:=r;exact⟨v,w,e,RV.up hp hk r1,RVs.up hp hk r2⟩
end
def RIs.up(c:ι <+: b)(hk:Kp H H'):∀{a:List (Int×D)}{ws:List (Key×V)},RIs K ι H a ws->RIs K b H' a ws
 | [],_,r=>r| (k,d)::a,ws,r=>by let⟨v,w,e,f,g⟩:=r;exact⟨v,w,e,RV.up c hk f,RIs.up c hk g⟩
def RFs.up(b:ι <+: a)(hk:Kp H H'):∀{c:List (Str×D)}{ws:List (Str×V)},RFs K ι H c ws->RFs K a H' c ws
 | [],_,h=>h| (f,d)::r,_,h=>by let⟨v,w,e,g,i⟩:=h;exact⟨v,w,e,RV.up b hk g,RFs.up b hk i⟩
def RFs.length:∀{a:List (Str×D)}{ws:List (Str×V)},RFs K ι H a ws->ws.length=a.length
 | [],_,h=>by cases(show _=[] from h);rfl| (f,d)::r,_,h=>by let⟨v,w,rfl,c,b⟩:=h;simp[RFs.length b]
def RFs.look(f):∀{a:List (Str×D)}{ws:List (Str×V)},RFs K ι H a ws->(a.lookup f=Ψ/\ws.lookup f=Ψ)\/∃d v,a.lookup f=Φ d/\ws.lookup f=Φ v/\RV K ι H d v
 | [],_,h=>by cases(show _=[] from h);exact .inl ⟨rfl,rfl⟩| (g,d)::r,_,h=>by
  let⟨v,w,rfl,b,e⟩:=h;by_cases c:(f==g)=Γ;exact .inr ⟨d,v,by simp![List.lookup,c],by simp![List.lookup,c],b⟩;have c:(f==g)=Δ:=by simpa using c
  simp![List.lookup,c];exact RFs.look f e
def RFs.put(f)(q:RV K ι H d v):∀{a:List (Str×D)}{ws:List (Str×V)},RFs K ι H a ws->RFs K ι H (zjC f d a) (putF f v ws)
 | [],_,h=>by cases(show _=[] from h);exact⟨v,[],rfl,q,rfl⟩| (g,x)::r,_,h=>by let⟨u,w,rfl,e,b⟩:=h;unfold zjC putF;by_cases c:g=f;rw[if_pos c,if_pos c];exact⟨v,w,rfl,q,b⟩;rw[if_neg c,if_neg c];exact⟨u,_,rfl,e,RFs.put f q b⟩
def RIs.length:∀{a:List (Int×D)}{ws:List (Key×V)},RIs K ι H a ws->ws.length=a.length
 | [],_,r=>by rw[show _=[] from r];rfl| (k,d)::a,ws,r=>by let⟨v,w,rfl,_,b⟩:=r;simp[RIs.length b]
def zjB[DecidableEq a]{x:a×V}{r:List (a×V)}{k:a}(h:x.1≠k):putK (x::r) k v=x::putK r k v:=by unfold putK;have:decide (x.1=k)=Δ:=decide_eq_false h;simp![any_cons,this,Bool.false_or];split;rw[Υ,if_neg h];rfl
def RIs.keys:∀{a:List (Int×D)}{ws:List (Key×V)},RIs K ι H a ws->ws.map (·.1)=a.map (λp=>(Sum.inl p.1:Key))
 | [],_,r=>by rw[show _=[] from r];rfl| (k,d)::a,ws,r=>by let⟨v,w,rfl,_,b⟩:=r;simp[RIs.keys b]
def RIs.put(k)(q:RV K ι H d v):∀{a:List (Int×D)}{ws:List (Key×V)},(a.map (·.1)).Nodup->RIs K ι H a ws->RIs K ι H (putI a k d) (putK ws (Sum.inl k:Key) v)
 | [],_,_,r=>by rw[show _=[] from r];exact⟨v,[],rfl,q,rfl⟩| (j,e)::a,ws,c,r=>by
  let⟨u,w,rfl,n,f⟩:=r;simp![Υ,nodup_cons]at c;by_cases z:j=k;subst z;have h:putI ((j,e)::a) j d=(j,d)::a:=by simp[putI]
  have i:putK (((Sum.inl j:Key),u)::w) (Sum.inl j:Key) v=((Sum.inl j:Key),v)::w:=by
   unfold putK;have:((((Sum.inl j:Key),u)::w).any λb=>decide (b.1=(Sum.inl j:Key)))=Γ:=by simp
   rw[if_pos this,Υ,if_pos rfl,List.map_congr_left,List.map_id];intro b l;have m:b.1∈w.map (·.1):=mem_map.mpr ⟨b,l,rfl⟩;rw[f.keys]at m;let⟨p,o,s⟩:=mem_map.mp m;have:b.1≠(Sum.inl j:Key):=λy=>c.1 (by
    rw[<-s]at y;rw[<-Sum.inl.inj y];exact mem_map.mpr ⟨p,o,rfl⟩)
   simp[this]
  rw[h,i];exact⟨v,w,rfl,q,f⟩;have h:putI ((j,e)::a) k d=(j,e)::putI a k d:=by simp[putI,z]
  have i:putK (((Sum.inl j:Key),u)::w) (Sum.inl k:Key) v=((Sum.inl j:Key),u)::putK w (Sum.inl k:Key) v:=zjB λy=>z (Sum.inl.inj y);rw[h,i];exact⟨u,_,rfl,n,RIs.put k q c.2 f⟩
def zfC(k)(d):∀a:List (Int×D),(putI a k d).map (·.1)=if k∈a.map (·.1) then a.map (·.1) else a.map (·.1)++[k]
 | []=>by simp[putI]| (j,e)::r=>by unfold putI;by_cases z:j=k;subst z;simp;have b:=zfC k d r;rw[if_neg z];simp![Υ,mem_cons,b];by_cases h:k∈r.map (·.1);rw[if_pos h,if_pos (.inr h)];rw[if_neg h,if_neg (by rintro(y|y);exact z y.symm;exact h y)];rfl
def zek(h:(c.map (·.1)).Nodup):((putI c k d).map (·.1)).Nodup:=by rw[zfC];split;exact h;rename_i n;rw[nodup_append];refine⟨h,by simp,λa f b e=>?_⟩;rw[mem_singleton]at e;subst e;exact λz=>n (z▸f)
def RV.ext(h:Ext ι H ι' H')(r:RV K ι H d v):RV K ι' H' d v:=r.up h.pre h.kp
def RVs.ext(h:Ext ι H ι' H')(r:RVs K ι H ds vs):RVs K ι' H' ds vs:=r.up h.pre h.kp
def RVs.length:∀{ds:List D}{vs:List V},RVs K ι H ds vs->vs.length=ds.length
 | [],_,r=>by rw[show _=[] from r];rfl| d::ds,vs,r=>by let⟨v,w,rfl,_,a⟩:=r;simp[RVs.length a]
def RVs.get:∀{ds:List D}{vs:List V}{i:Nat}{d:D},RVs K ι H ds vs->ds[i]?=Φ d->∃v,vs[i]?=Φ v/\RV K ι H d v
 | [],_,_,_,_,e=>by simp at e| d::ds,vs,0,a,r,e=>by let⟨v,w,rfl,b,_⟩:=r;simp at e;subst e;exact⟨v,rfl,b⟩| d::ds,vs,i+1,a,r,e=>by let⟨v,w,rfl,_,c⟩:=r;let⟨u,f,g⟩:=RVs.get c (by simpa using e);exact⟨u,by simpa using f,g⟩
def RVs.get'{i:Nat}(r:RVs K ι H ds vs)(e:vs[i]?=Φ v):∃d,ds[i]?=Φ d/\RV K ι H d v:=by
 have a:i<ds.length:=by rw[<-r.length];exact(Α.mp e).1
 let⟨u,b,c⟩:=r.get (Η a);rw[e]at b;cases b;exact⟨_,Η a,c⟩
def RVs.append:∀{ds es:List D}{vs us:List V},RVs K ι H ds vs->RVs K ι H es us->RVs K ι H (ds++es) (vs++us)
 | [],_,_,_,r,q=>by rw[show _=[] from r];exact q| d::ds,es,vs,us,r,q=>by let⟨v,w,rfl,a,b⟩:=r;exact⟨v,w++us,rfl,a,RVs.append b q⟩
def RVs.set(q:RV K ι H d v):∀{ds:List D}{vs:List V}(n:Nat),RVs K ι H ds vs->RVs K ι H (ds.set n d) (vs.set n v)
 | [],_,n,r=>by rw[show _=[] from r];rfl| _::ds,vs,0,r=>by let⟨_,w,rfl,b,a⟩:=r;exact⟨v,w,rfl,q,a⟩| _::ds,vs,n+1,r=>by let⟨u,w,rfl,b,a⟩:=r;exact⟨u,w.set n v,rfl,b,RVs.set q n a⟩
def RVs.ints:∀ns:List Int,RVs K ι H (ns.map D.int) (ns.map V.int)
 | []=>rfl|n::ns=>⟨_,_,rfl,rfl,RVs.ints ns⟩
def RVs.ints_eq:∀{ns:List Int}{vs:List V},RVs K ι H (ns.map D.int) vs->vs=ns.map V.int
 | [],_,h=>h| n::ns,vs,h=>by let⟨v,r,rfl,a,b⟩:=h;rw[RVs.ints_eq b,show v=.int n from a];rfl
def zhJ:∀{ds:List D}{ns:List Int},zbr ds=Φ ns->ds=ns.map D.int:=by
 intro ds;unfold zbr;induction ds with
 |nil=>intro ns h;simp at h;subst h;rfl| cons d ds a=>
  intro ns h;rw[Ϝ]at h;cases d with
  |int i=>cases e:List.mapM zbz ds with|none=>rw[e]at h;simp[zbz]at h|some b=>rw[e]at h;simp[zbz]at h;subst h;simp[a e]
  |_=>simp[zbz]at h
mutual
theorem RV.flat{K:PySem.W.Frag}{ι:List Addr}{H:Hp}:∀{d:D}{v:V},RV K ι H d v->R.flat ι.length d=Γ
 |.non,_,_=>by simp[R.flat]|.bl _,_,_=>by simp[R.flat]|.int _,_,_=>by simp[R.flat]|.str _,_,_=>by simp[R.flat]| .tup ds,_,r=>by let⟨a,xs,e,ha,q⟩:=r;simp![R.flat];exact RVs.flats q| .ref l,_,r=>by let⟨a,e,q⟩:=r;simp![R.flat,decide_eq_true_eq];exact(Α.mp e).1| .fix ds,_,r=>by let⟨a,xs,e,ha,q⟩:=r;simp![R.flat];exact RVs.flats q
theorem RVs.flats{K:PySem.W.Frag}{ι:List Addr}{H:Hp}:∀{ds:List D}{vs:List V},RVs K ι H ds vs->R.flats ι.length ds=Γ
 | [],_,_=>by simp[R.flats]| d::ds,vs,r=>by let⟨v,w,e,r1,r2⟩:=r;simp![R.flats,Ε];exact⟨RV.flat r1,RVs.flats r2⟩
end
mutual
theorem RV.restrict{K:PySem.W.Frag}{ι ι':List Addr}{H:Hp}(hp:ι <+: ι'):∀{d:D}{v:V},R.flat ι.length d=Γ->RV K ι' H d v->RV K ι H d v
 |.non,_,_,r=>r|.bl _,_,_,r=>r|.int _,_,_,r=>r|.str _,_,_,r=>r| .tup ds,_,f,r=>by let⟨a,xs,e,ha,q⟩:=r;simp![R.flat]at f;exact⟨a,xs,e,ha,RVs.restrict hp f q⟩| .ref l,_,f,r=>by let⟨a,e,q⟩:=r;simp![R.flat,decide_eq_true_eq]at f;refine⟨a,?_,q⟩;let⟨t,rfl⟩:=hp;rw[getElem?_append_left f]at e;exact e| .fix ds,_,f,r=>by let⟨a,xs,e,ha,q⟩:=r;simp![R.flat]at f;exact⟨a,xs,e,ha,RVs.restrict hp f q⟩
theorem RVs.restrict{K:PySem.W.Frag}{ι ι':List Addr}{H:Hp}(hp:ι <+: ι'):∀{ds:List D}{vs:List V},R.flats ι.length ds=Γ->RVs K ι' H ds vs->RVs K ι H ds vs
 | [],_,_,r=>r| d::ds,vs,f,r=>by let⟨v,w,e,r1,r2⟩:=r;simp![R.flats,Ε]at f;exact⟨v,w,e,RV.restrict hp f.1 r1,RVs.restrict hp f.2 r2⟩
end
def RIs.flats:∀{a:List (Int×D)}{ws:List (Key×V)},RIs K ι H a ws->R.flats ι.length (a.map (·.2))=Γ
 | [],_,_=>by simp[R.flats]| (k,d)::a,ws,r=>by let⟨v,w,e,b,c⟩:=r;simp![Υ,R.flats,Ε];exact⟨RV.flat b,RIs.flats c⟩
def RIs.restrict(c:ι <+: b):∀{a:List (Int×D)}{ws:List (Key×V)},R.flats ι.length (a.map (·.2))=Γ->RIs K b H a ws->RIs K ι H a ws
 | [],_,_,r=>r| (k,d)::a,ws,f,r=>by let⟨v,w,e,g,h⟩:=r;simp![Υ,R.flats,Ε]at f;exact⟨v,w,e,RV.restrict c f.1 g,RIs.restrict c f.2 h⟩
def RFs.flats:∀{a:List (Str×D)}{ws:List (Str×V)},RFs K ι H a ws->R.flats ι.length (a.map (·.2))=Γ
 | [],_,_=>by simp| (f,d)::r,_,h=>by let⟨v,w,_,b,c⟩:=h;simp![Υ,zev,Ε];exact⟨RV.flat b,RFs.flats c⟩
def RFs.restrict(g:ι <+: a):∀{b:List (Str×D)}{ws:List (Str×V)},R.flats ι.length (b.map (·.2))=Γ->RFs K a H b ws->RFs K ι H b ws
 | [],_,_,h=>h| (f,d)::r,_,c,h=>by let⟨v,w,e,i,j⟩:=h;simp![Υ,zev,Ε]at c;exact⟨v,w,e,RV.restrict g c.1 i,RFs.restrict g c.2 j⟩
def RO.up(h:RO K ι H a o)(g:ι <+: i)(hk:Kp H H')(e:H' a=H a):RO K i H' a o:=by cases o with|lst q=>let⟨k,b,d⟩:=h;exact⟨k,e.trans b,d.up g hk⟩|dic l=>let⟨h0,f,b,d⟩:=h;exact⟨h0,f,e.trans b,d.up g hk⟩|ins c m=>let⟨C,j,f,h0,b,d⟩:=h;exact⟨C,j,f,h0,e.trans b,d.up g hk⟩|exc c m=>let⟨C,j,n,f,h0,b,d,p⟩:=h;exact⟨C,j,n,f,h0,e.trans b,hk.frzs _ _ _ d,p.up g hk⟩
def RO.stay(h:RO K ι H a o)(x:Ext ι H ι' H')(e:H' a=H a):RO K ι' H' a o:=h.up x.pre x.kp e
section
variable{K:PySem.W.Frag}{ι ι':List Addr}{H H':Hp}{S S' T:St}{l:Nat}{a p:Addr}
def RH.mem(h:RH K ι H S)(e:S.get l=Φ o):∃a,ι[l]?=Φ a/\RO K ι H a o/\a∈ι:=by let⟨a,b,c⟩:=h.obj l o e;exact⟨a,b,c,mem_of_getElem? b⟩
def zmm(h:l<S.len):∃o,S.get l=Φ o:=by unfold St.len at h;unfold St.get;split;rename_i c;exact⟨_,Η c⟩;exact⟨_,Η (by omega)⟩
def RH.off(h:RH K ι H S)(x:Ext ι H ι H')(e:∀a∈ι,H' a=H a):RH K ι H' S:=⟨h.len,h.nd,λl o q=>let ⟨a,b,c,d⟩:=h.mem q;⟨a,b,c.stay x (e a d)⟩,x.kp.tab h.tab⟩
def RH.live(h:RH K ι H S)(k:a∈ι):∃o,H a=Φ o/\(∀xs,o≠.tup xs)/\(∀z u,o≠.frz z u)/\∀m,o≠.tbl m:=by
 let⟨l,g⟩:=mem_iff_getElem?.mp k;have f:l<S.len:=by rw[<-h.len];exact(Α.mp g).1
 let⟨o,e⟩:=zmm f;let⟨b,i,d⟩:=h.obj l o e;rw[g]at i;cases i;cases o with|lst t=>let⟨xs,q,_⟩:=d;exact⟨_,q,⟨λ_ z=>(by cases z),λ_ _ z=>(by cases z),λ_ z=>(by cases z)⟩⟩|dic n=>let⟨_,j,q,_⟩:=d;exact⟨_,q,⟨λ_ z=>(by cases z),λ_ _ z=>(by cases z),λ_ z=>(by cases z)⟩⟩|ins c r=>let⟨C,s,j,_,q,_⟩:=d;exact⟨_,q,⟨λ_ z=>(by cases z),λ_ _ z=>(by cases z),λ_ z=>(by cases z)⟩⟩|exc c r=>let⟨C,s,v,j,_,q,_⟩:=d;exact⟨_,q,⟨λ_ z=>(by cases z),λ_ _ z=>(by cases z),λ_ z=>(by cases z)⟩⟩
def RH.fresh(h:RH K ι H S)(b:H p=Option.none):p∉ι:=λc=>by let⟨o,e,_⟩:=h.live c;rw[b]at e;exact nS e
def RH.notup(h:RH K ι H S)(b:H p=Φ (.tup xs)):p∉ι:=λc=>by let⟨o,e,q,_⟩:=h.live c;rw[b]at e;cases e;exact q _ rfl
def Kp.new(c:H p=Option.none)(o):Kp H (upd H p o):=.same (Tups.upd_new c) (λb z u e=>by rw[zaf (zam e c)];exact e) λb d e=>by rw[zaf (zam e c)];exact e
def Ext.new(b:H p=Option.none)(o):Ext ι H ι (upd H p o):=⟨ϛ _,Kp.new b o,λa u h e=>⟨.inl (by rw[zaf (zam e b)];exact e),h⟩⟩
def RH.new(h:RH K ι H S)(b:H p=Option.none)(o):RH K ι (upd H p o) S:=h.off (Ext.new b o) λa c=>zaf λe=>h.fresh b (e▸c)
def ze5(S:St)(o):(S.push o).get S.len=Φ o:=by
 have h:¬S.len<S.frz.length:=by unfold St.len;lia
 unfold St.get St.push;unfold St.len;simp
def zcg(h:l<S.len):(S.push o).get l=S.get l:=by unfold St.len at h;unfold St.get St.push;simp only;split;rfl;rw[getElem?_append_left (by omega)]
def zbV(S:St)(o):(S.push o).len=S.len+1:=by simp[St.push,St.len];lia
def Ext.obj(h:RH K ι H S)(b:H p=Option.none)(u):Ext ι H (ι++[p]) (upd H p u):=
 ⟨ύ _ _,Kp.new b u,λa o c e=>⟨.inl (by rw[zaf (zam e b)];exact e),by
  intro z;rcases mem_append.mp z with z|z;exact c z;simp at z;exact zam e b z⟩⟩
def RH.obj'(h:RH K ι H S)(c:H p=Option.none)(u)(o)(g:RO K (ι++[p]) (upd H p u) p o):RH K (ι++[p]) (upd H p u) (S.push o):=by
 refine⟨by rw[length_append,h.len,zbV];rfl,?_,λl q e=>?_,(Kp.new c u).tab h.tab⟩;rw[nodup_append];refine⟨h.nd,by simp,λa i b f=>?_⟩;simp at f;subst f;exact λz=>h.fresh c (z▸i);by_cases j:l<S.len;rw[zcg j]at e;let⟨a,k,m,n⟩:=h.mem e;exact⟨a,zbK (ύ _ _) k,m.stay (Ext.obj h c u) (zaf λz=>h.fresh c (z▸n))⟩;have d:=zak e;rw[zbV]at d;have:l=S.len:=by lia
 subst this;rw[ze5]at e;cases e;exact⟨p,by rw[<-h.len];simp,g⟩
def RH.lay(h:RH K ι H S)(b:H p=Option.none)(r:RVs K ι H ds xs):RH K (ι++[p]) (upd H p (.lst xs)) (S.push (.lst ds)):=h.obj' b _ _ ⟨xs,zag,r.ext (Ext.obj h b _)⟩
def RH.last(h:RH K ι H S)(p):(ι++[p])[S.len]?=Φ p:=by rw[<-h.len];simp
def Ext.wr(h:RH K ι H S)(e:S.get l=Φ o)(f:ι[l]?=Φ a)(u):Ext ι H ι (upd H a u):=by have d:=mem_of_getElem? f;refine⟨ϛ _,.same (λb g c=>?_) (λb z v c=>?_) λb i c=>?_,λb o c e=>⟨.inl ((zaf λ(z:b=a)=>c (by rw[z];exact d)).trans e),c⟩⟩;rw[zaf];exact c;rintro rfl;exact h.notup c d;rw[zaf];exact c;rintro rfl;let⟨o,e,_,q,_⟩:=h.live d;rw[c]at e;cases e;exact q _ _ rfl;rw[zaf];exact c;rintro rfl;let⟨o,e,_,_,q⟩:=h.live d;rw[c]at e;cases e;exact q _ rfl
def zot(e:S.put l o=Φ S'):S'.len=S.len/\(l<S.len->S'.get l=Φ o)/\(∀m,m≠l->S'.get m=S.get m)/\S.frz.length<=l:=by unfold St.put at e;split at e;exact nS e;split at e;exact nS e;injection e with e;subst e;rename_i b d;refine⟨by simp[St.len],λc=>?_,λm f=>?_,by lia⟩;unfold St.len at c;unfold St.get;simp![b,if_false];rw[getElem?_set_self (by lia)];unfold St.get;split;rfl;rw[getElem?_set_ne (by lia)]
def RH.wr(h:RH K ι H S)(e:S.get l=Φ o)(d:ι[l]?=Φ a)(w:S.put l i=Φ S')(j:RO K ι (upd H a u) a i):RH K ι (upd H a u) S':=by let⟨k,n,q,_⟩:=zot w;refine⟨h.len.trans k.symm,h.nd,λm t c=>?_,(Ext.wr h e d u).kp.tab h.tab⟩;by_cases f:m=l;subst f;rw[n (zak e)]at c;cases c;exact⟨a,d,j⟩;rw[q m f]at c;let⟨b,g,r,_⟩:=h.mem c;refine⟨b,g,r.stay (Ext.wr h e d u) (zaf ?_)⟩;rintro rfl;let⟨v,s⟩:=Α.mp d;let⟨x,c⟩:=Α.mp g;exact f ((List.getElem_inj h.nd).mp (c.trans s.symm))
end
end R
namespace R
open PySem PySem.Spec PyProof.Rows L2
variable[Mks]
abbrev Lf(K:PySem.W.Frag)(ι:List Addr)(H:Hp)(Q:D->R.St->Prop):VK:=λv b=>∃d a c,Ext ι H a b/\RV K a b d v/\RH K a b c/\Q d c
section
variable{K:PySem.W.Frag}{ι ι':List Addr}{H H':Hp}{S S':R.St}{Q:D->R.St->Prop}{d:D}{v:V}{p:Addr}
def Lf.of(h:RH K ι H S)(r:RV K ι H d v)(q:Q d S):Lf K ι H Q v H:=⟨d,ι,S,Ext.refl ι H,r,h,q⟩
def Lf.up(x:Ext ι H ι' H')(h:Lf K ι' H' Q v b):Lf K ι H Q v b:=by let⟨d,a,c,e,r⟩:=h;exact⟨d,a,c,x.trans e,r⟩
def Lf.tup(h:RH K ι H S)(a:H p=Option.none){ds:List D}{xs:List V}(r:RVs K ι H ds xs)(q:Q (.tup ds) S):Lf K ι H Q (.ref p) (upd H p (.tup xs)):=⟨.tup ds,ι,S,Ext.new a _,⟨p,xs,rfl,zag,r.ext (Ext.new a _)⟩,h.new a _,q⟩
def Lf.lst(h:RH K ι H S)(a:H p=Option.none){ds:List D}{xs:List V}(r:RVs K ι H ds xs)(q:Q (.ref S.len) (S.push (.lst ds))):Lf K ι H Q (.ref p) (upd H p (.lst xs)):=⟨.ref S.len,ι++[p],S.push (.lst ds),Ext.obj h a _,⟨p,h.last p,rfl⟩,h.lay a r,q⟩
def Lf.wr(h:RH K ι H S)(e:S.get l=Φ o)(b:ι[l]?=Φ a)(w:S.put l (.lst ds)=Φ S')(r:RVs K ι H ds xs)(c:RV K ι H d v)(q:Q d S'):Lf K ι H Q v (upd H a (.lst xs)):=⟨d,ι,S',Ext.wr h e b _,c.ext (Ext.wr h e b _),h.wr e b w ⟨xs,zag,r.ext (Ext.wr h e b _)⟩,q⟩
end
def zdH(h:W (lay S ds) Q):ds.length<=sizeLine/\Q (.ref S.len) (S.push (.lst ds)):=by unfold lay at h;split at h;rename_i c;exact⟨by exact c,h⟩;exact h.elim
def zpT(h:W (wr S l ds d) Q):ds.length<=sizeLine/\∃S',S.put l (.lst ds)=Φ S'/\Q d S':=by
 unfold wr at h;split at h;rename_i c;refine⟨by exact c,?_⟩;cases e:S.put l (.lst ds) with|none=>rw[e]at h;exact h.elim|some S'=>rw[e]at h;exact⟨S',rfl,h⟩
 exact h.elim
abbrev rD2(K:PySem.W.Frag)(f:R.St->D->D->Out D):R2:=λx y H g=>∃a S d e b,RV K a H d x/\RV K a H e y/\RH K a H S/\W (f S d e) b/\∀v c,Lf K a H b v c->g v c
section
variable{X:Cx}
def zmA{vs ws:List Ξ}(l:IsTup s.heap t vs.toArray)(m:IsTup s.heap b ws.toArray)(o:vs=[])(p:Q (.ref b) s):wpAny (model prog w) A (binaryOp .Add (.ref t) (.ref b)) Q E s:=by
 let⟨⟨q,r,g,u⟩,h,i,n,j⟩:=id l;let⟨⟨k,e,data2,f⟩,a,c,v,d⟩:=id m;subst i j c d;exact concat_meets ⟨_,h,rfl⟩ ⟨_,a,rfl⟩ noFill_tuple_add seq_tuple_add PySem.F.slot_tuple_add PySem.F.entry_tuple_add (PySem.F.args_tuple_add_2 _ _)
  (tuple_addW0 t b vs.toArray ws.toArray n v r e u f (by simp[o])) ⟨h,a,p⟩
def zl3:OpR X (binaryOp .Add) (λx y H Q=>∃a b ys,x=.ref a/\y=.ref b/\SqT X.K H a []/\SqT X.K H b ys/\Q (.ref b) H):=by intro c s n H x y v u Q I e f h;let⟨a,b,ys,rfl,rfl,g,i,q⟩:=h;cases e;cases f;let⟨j,k,l,_⟩:=I.tuple g;let⟨d,o,m,_⟩:=I.tuple i;exact zmA l m (k.nil_iff.mpr rfl) ⟨.ref b,H,I,rfl,q⟩
def zsy(op):OpR X (binaryOp op) (rD2 X.K λS d e=>binD S op d e):=by
 intro g s l H x y v u h I m n Y;let⟨ι,S,d,e,Qd,E,G,o,f,q⟩:=Y;dsimp only at f;unfold binD at f;split at f;rename_i i j;obtain rfl:x=.int i:=E;obtain rfl:y=.int j:=G;have fin:∀k:Int,Qd (.int k) S->h (.int k) H:=λk hk=>q _ _ (Lf.of (d:=.int k) o rfl hk);unfold binI at f;split at f;exact zrH g s l H _ _ v u h I m n ⟨i,j,rfl,rfl,fin _ f⟩;exact zry g s l H _ _ v u h I m n ⟨i,j,rfl,rfl,fin _ f⟩;split at f;rename_i c;refine zrC g s l H _ _ v u h I m n ⟨i,j,rfl,rfl,?_,fin _ f⟩;unfold zoR at c;rw[ϙ,decide_eq_true_eq,decide_eq_true_eq]at c;exact c;exact f.elim;split at f;rename_i c;exact zoJ g s l H _ _ v u h I m n ⟨i,j,rfl,rfl,c,fin _ f⟩;exact f.elim;split at f;rename_i c;exact zrD g s l H _ _ v u h I m n ⟨i,j,rfl,rfl,c,fin _ f⟩;exact f.elim;split at f;rename_i c;exact zrA g s l H _ _ v u h I m n ⟨i,j,rfl,rfl,⟨c.1,c.2.1,by omega⟩,fin _ f⟩;exact f.elim;exact f.elim;rename_i J L;split at f;split at f;rename_i c;let⟨a,w,rfl,A,r⟩:=E;let⟨b,B,rfl,C,t⟩:=G;by_cases O:w=[];subst O;have M:J=[]:=by have:=r.length;simpa using this.symm
 subst M;exact zl3 g s l H _ _ v u h I m n ⟨a,b,B,rfl,rfl,SqT.of A,SqT.of C,(q _ _ (Lf.of (d:=.tup L) o ⟨b,B,rfl,C,t⟩ (by simpa using f)))⟩;refine zoK g s l H _ _ v u h I m n ⟨a,b,w,B,rfl,rfl,SqT.of A,SqT.of C,O,?_,λQ=>?_,λQ p N=>?_⟩;rw[r.length,t.length];exact c;subst Q;have M:L=[]:=by have:=t.length;simpa using this.symm
 subst M;exact q _ _ (Lf.of (d:=.tup J) o ⟨a,w,rfl,A,r⟩ (by simpa using f));exact q _ _ (Lf.tup o N (r.append t) f);exact f.elim;exact f.elim;split at f;rename_i J L e1 e2;let⟨a1,h1,rfl⟩:=E;let⟨b1,h2,rfl⟩:=G;let⟨a2,T,w,A,r⟩:=o.obj _ _ e1;let⟨b2,U,B,C,t⟩:=o.obj _ _ e2;rw[h1]at T;cases T;rw[h2]at U;cases U;let⟨z,hq⟩:=zdH f;refine zrG g s l H _ _ v u h I m n ⟨a1,b1,w,B,rfl,rfl,A,C,?_,λp N=>?_⟩;rw[r.length,t.length];rw[length_append]at z;exact z;exact q _ _ (Lf.lst o N (r.append t) hq);exact f.elim;exact f.elim
def za1{a b:Type}{f:a->Option b}{x:a}{xs:List a}{ys:List b}(h:(x::xs).mapM f=Φ ys):∃y r,f x=Φ y/\xs.mapM f=Φ r/\ys=y::r:=by
 rw[Ϝ]at h;cases e:f x with
 |none=>rw[e]at h;exact nS h
 |some y=>
  rw[e]at h;cases c:xs.mapM f with
  |none=>rw[c]at h;exact nS h
  |some r=>rw[c]at h;injection h with h;exact⟨y,r,rfl,rfl,h.symm⟩
def zis(G:RH X.K ι H S):∀(n:Nat)(d:D)(j:PyData)(v:V),pd S n d=Φ j->RV X.K ι H d v->Rep H j v/\j.canLay0=Γ/\j.depth<=n:=by
 intro n;induction n with
 |zero=>
  intro d p v h r;cases d<;>simp![pd]at h
  cases h;exact⟨r,rfl,le_refl _⟩;cases h;exact⟨r,rfl,le_refl _⟩;cases h;exact⟨r,rfl,le_refl _⟩;split at h;rename_i c;cases h;exact⟨r,c,le_refl _⟩;exact nS h
  all_goals exact nS h
 |succ n I=>
  have k:∀(g:List D)(f:List PyData)(t:List V),g.mapM (pd S n)=Φ f->RVs X.K ι H g t->RepAll H f t/\PyData.canLayAll0 f=Γ/\PyData.depthAll f<=n:=by
   intro g;induction g with
   |nil=>
    intro f t h r;have h:f=[]:=by simpa using h.symm
    subst h;exact⟨r,rfl,zero_le _⟩
   |cons d g z=>intro f t h r;let⟨y,m,A,u,rfl⟩:=za1 h;let⟨v,w,rfl,J,L⟩:=r;let⟨M,C,O⟩:=I d y v A J;let⟨o,q,E⟩:=z m w u L;refine⟨⟨v,w,rfl,M,o⟩,by simp[PyData.canLayAll0,C,q],?_⟩;simp![PyData.depthAll];lia
  intro d p v h r;cases d with
  |non=>cases h;exact⟨r,rfl,zero_le _⟩|bl b=>cases h;exact⟨r,rfl,zero_le _⟩|int i=>cases h;exact⟨r,rfl,zero_le _⟩| str x=>simp![pd]at h;split at h;rename_i c;cases h;exact⟨r,c,zero_le _⟩;exact nS h
  |tup g=>
   simp![pd]at h;cases e:g.mapM (pd S n) with
   |none=>rw[e]at h;exact nS h
   |some f=>
    rw[e]at h;have h:PyData.tuple f=p:=by simpa using h
    subst h;let⟨a,s,rfl,B,m⟩:=r;let⟨o,q,E⟩:=k g f s e m;refine⟨⟨a,s,rfl,B,o⟩,by simp[PyData.canLay0,q],?_⟩;simp![PyData.depth];lia
  |ref l=>
   simp![pd]at h;split at h;rename_i g N;cases e:g.mapM (pd S n) with
   |none=>rw[e]at h;exact nS h
   |some f=>
    rw[e]at h;have h:PyData.list f=p:=by simpa using h
    subst h;let⟨a,A,rfl⟩:=r;let⟨C,u,s,B,m⟩:=G.obj _ _ N;rw[A]at u;cases u;let⟨o,q,E⟩:=k g f s e m;refine⟨⟨a,s,rfl,B,o⟩,by simp[PyData.canLay0,q],?_⟩;simp![PyData.depth];lia
   exact nS h
  |fix g=>exact nS h
abbrev rC2(K:PySem.W.Frag)(op:CmpOp):R2:=λx y H b=>∃a S d e k,RV K a H d x/\RV K a H e y/\RH K a H S/\cmpD S op d e=Φ k/\b (.bl k) H
def zhT(h:eqD S d e=Φ k):∃a b,pd S 60 d=Φ a/\pd S 60 e=Φ b/\k=PyData.eqv a b:=by
 unfold eqD at h;cases c:pd S 60 d with
 |none=>rw[c]at h;exact nS h
 |some a=>
  rw[c]at h;cases f:pd S 60 e with
  |none=>rw[f]at h;exact nS h
  |some b=>rw[f]at h;injection h with h;exact⟨a,b,rfl,rfl,h.symm⟩
open Classical in
abbrev eqRd(h:Heap)(p:PyData)(u:Ξ):Bool:=if c:∃q as,Reads h u q as/\q.canLay0=Γ then PyData.eqv c.choose p else Δ
def zpp(r:Reads h u q as)(c:q.canLay0=Γ):eqRd h p u=PyData.eqv q p:=by have a:∃q as,Reads h u q as/\q.canLay0=Γ:=⟨q,as,r,c⟩;unfold eqRd;rw[dif_pos a];let⟨b,d,e⟩:=a.choose_spec;rw[SeqAt.Reads.unique _ _ _ _ _ c r d]
def zmi(I:Inv X m σ H s)(hA:A.units+62<cLine)(n:RH X.K ι H S)(o:pd S 60 x=Φ c)(C:RV X.K ι H x f)(E:RelV f g):
  ∀{ds:List D}{vs:List V}{us:List Ξ}{bs:List Bool},RVs X.K ι H ds vs->Vals vs us->ds.mapM (λz=>eqD S z x)=Φ bs->us.any (eqRd s.heap c)=bs.any id/\∀u∈us,SeqAt.EqAt A s u g (eqRd s.heap c u):=by
 let⟨G,J,x3⟩:=zis n 60 x c f o C;let⟨i,j⟩:=Rep.reads I c f g G E;intro ds;induction ds with
 |nil=>
  intro vs us bs r k h;cases(show vs=[] from r);cases k;have h:bs=[]:=by simpa using h.symm
  subst h;exact⟨rfl,λu L=>by cases L⟩
 |cons d ds M=>intro vs us bs r k h;let⟨v,w,rfl,N,O⟩:=r;let⟨b,rr,e,Q,rfl⟩:=za1 h;cases k with| cons T U=>rename_i u Y;let⟨a,b',e1,q,rfl⟩:=zhT e;rw[o]at q;cases q;let⟨p1,t,p3⟩:=zis n 60 d a v e1 N;let⟨as,y⟩:=Rep.reads I a v u p1 T;have B:=zpp (p:=c) y t;let⟨i1,i2⟩:=M O U Q;refine⟨by simp[B,i1],λz l=>?_⟩;rcases mem_cons.mp l with rfl|l;rw[B];exact SeqAt.eqAt_reads a c A s z g as i y j t J (by lia);exact i2 z l
def zmT(g:RH X.K ι H S)(h:zbe S d=Φ ds)(r:RV X.K ι H d v):∃a xs,v=.ref a/\(SqL X.K H a xs\/SqT X.K H a xs)/\RVs X.K ι H ds xs:=by
 cases d with
 |tup i=>cases h;let⟨a,xs,rfl,b,c⟩:=r;exact⟨a,xs,rfl,.inr (SqT.of b),c⟩| fix i=>cases h;let⟨a,xs,rfl,b,c⟩:=r;exact⟨a,xs,rfl,.inl b.sq,c⟩| ref l=>simp![zbe]at h;split at h;rename_i j e;cases h;let⟨a,k,rfl⟩:=r;let⟨m,f,xs,b,c⟩:=g.obj _ _ e;rw[k]at f;cases f;exact⟨a,xs,rfl,.inl (SqL.of b),c⟩;exact nS h
 |_=>exact nS h
def zsb(h:inD S x ys=Φ k):∃bs,ys.mapM (λz=>eqD S z x)=Φ bs/\k=bs.any id:=by
 unfold inD at h;cases e:ys.mapM (λz=>eqD S z x) with
 |none=>rw[e]at h;exact nS h
 |some bs=>rw[e]at h;injection h with h;exact⟨bs,rfl,h.symm⟩
def nonV{K}(hd:RV K ι H d x):decide (x=V.non)=zpd d:=by cases d with|non=>rw[show x=.non from hd];rfl|bl b=>rw[show x=.bl b from hd];rfl|int b=>rw[show x=.int b from hd];rfl|str b=>rw[show x=.str b from hd];rfl|tup b=>let⟨_,_,rfl,_⟩:=hd;rfl|ref b=>let⟨_,_,rfl⟩:=hd;rfl|fix b=>let⟨_,_,rfl,_⟩:=hd;rfl
def zex(hu:X.A.units+128<cLine)(op):OpR X (compareOp op) (rC2 X.K op):=by
 intro f s A H x y v u B I o l q';let⟨ι,S,d,e,k,J,L,T,c,q⟩:=q';unfold cmpD at c;split at c;rename_i i j;obtain rfl:x=.int i:=J;obtain rfl:y=.int j:=L;unfold cmpI at c;split at c;cases c;exact ztH f s A H _ _ v u B I o l ⟨rfl,by simpa using q⟩;cases c;exact ztC f s A H _ _ v u B I o l ⟨rfl,by simpa using q⟩;cases c;exact ztD f s A H _ _ v u B I o l ⟨i,j,rfl,rfl,q⟩;cases c;exact ztE f s A H _ _ v u B I o l ⟨i,j,rfl,rfl,q⟩;cases c;exact ztF f s A H _ _ v u B I o l ⟨i,j,rfl,rfl,q⟩;cases c;exact ztG f s A H _ _ v u B I o l ⟨i,j,rfl,rfl,q⟩;exact nS c;unfold cmpO at c;have C:∀(k:Bool),((zbe S e).bind λU=>inD S d U)=Φ k->∃a E,y=.ref a/\(SqL X.K H a E\/SqT X.K H a E)/\∃(t:PyData),∀Y,Vals E Y->Y.any (eqRd s.heap t)=k/\∀z∈Y,SeqAt.EqAt X.A.in1 s z v (eqRd s.heap t z):=by
  intro k h;cases es:zbe S e with
  |none=>rw[es]at h;exact nS h
  |some U=>
   rw[es]at h;let⟨bs,hb,rfl⟩:=zsb (show inD S d U=Φ k from h);let⟨a,E,rfl,m,rr⟩:=zmT T es L;refine⟨a,E,rfl,m,?_⟩;cases G:pd S 60 d with
   |some t=>exact⟨t,λY M=>zmi I (show X.A.units+1+62<cLine by lia) T G J o rr M hb⟩| none=>
    cases U with
    |nil=>
     refine⟨.none,λY M=>?_⟩;cases(show E=[] from rr);cases M;have hb:bs=[]:=by simpa using hb.symm
     subst hb;exact⟨rfl,λz hz=>by cases hz⟩
    |cons z zs=>let⟨b,r,n,_⟩:=za1 hb;let⟨_,_,_,h3,_⟩:=zhT n;rw[G]at h3;exact nS h3
 split at c
 . skip
   let⟨a,b,n,p,rfl⟩:=zhT c;let⟨p1,p2,p3⟩:=zis T 60 d a x n J;let⟨q1,q2,q3⟩:=zis T 60 e b y p L;exact zrF (by lia) f s A H x y v u B I o l ⟨a,b,p1,q1,p2,q2,by lia,q⟩
 cases N:eqD S d e with
 |none=>rw[N]at c;exact nS c
 |some k'=>
  rw[N]at c;let⟨a,b,n,p,rfl⟩:=zhT N;let⟨p1,p2,p3⟩:=zis T 60 d a x n J;let⟨q1,q2,q3⟩:=zis T 60 e b y p L;have c:k = !PyData.eqv a b:=by simpa using c.symm
  subst c;exact zrB (by lia) f s A H x y v u B I o l ⟨a,b,p1,q1,p2,q2,by lia,q⟩
 split at c;obtain rfl:y=.non:=L;cases c;obtain rfl:u=Ξ.none:=l;refine is_none_gen ⟨.bl _,H,I,rfl,?_⟩;rw[o.none_iff,nonV J];exact q;rename_i b _;split at c;rename_i a _;cases c;exact zrE f s A H _ _ v u B I o l ⟨a,b,J,L,q⟩;exact nS c;exact nS c;split at c;obtain rfl:y=.non:=L;cases c;obtain rfl:u=Ξ.none:=l;refine isnot_none_gen ⟨.bl _,H,I,rfl,?_⟩;rw[o.none_iff,nonV J];exact q;exact nS c
 . skip
   let⟨a,E,rfl,m,t,G⟩:=C _ c;cases(show u=Ξ.ref a from l);rcases m with m|m;let⟨g,r,O,hz⟩:=I.list m;let⟨n,p⟩:=G g r;exact SeqAt.in_listAt (eqRd s.heap t) O.isList (λw Q=>p w (by simpa using Q)) (zaw I q (by simpa using n.symm));let⟨g,r,O,hz⟩:=I.tuple m;let⟨n,p⟩:=G g r;exact SeqAt.in_tupleAt (eqRd s.heap t) O (λw Q=>p w (by simpa using Q)) (zaw I q (by simpa using n.symm))
 cases N:(zbe S e).bind λU=>inD S d U with
 |none=>rw[N]at c;exact nS c
 |some k'=>
  rw[N]at c;have c:k = !k':=by simpa using c.symm
  subst c;let⟨a,E,rfl,m,t,G⟩:=C k' N;cases(show u=Ξ.ref a from l);rcases m with m|m;let⟨g,r,O,hz⟩:=I.list m;let⟨n,p⟩:=G g r;exact SeqAt.notIn_listAt (eqRd s.heap t) O.isList (λw Q=>p w (by simpa using Q)) (zaw I q (by simpa using congrArg (!·) n.symm));let⟨g,r,O,hz⟩:=I.tuple m;let⟨n,p⟩:=G g r;exact SeqAt.notIn_tupleAt (eqRd s.heap t) O (λw Q=>p w (by simpa using Q)) (zaw I q (by simpa using congrArg (!·) n.symm))
 exact nS c
end
set_option backward.match.sparseCases false
abbrev zai:Expr->Bool|.Starred _ _=>Δ|_=>Γ
abbrev za8:Expr->Bool|.ListComp ..=>Δ|.SetComp ..=>Δ|.DictComp ..=>Δ|_=>Γ
abbrev zcu:Expr->Bool|.Slice ..=>Δ|_=>Γ
abbrev zaU:Expr->Bool|.Set ..=>Δ|_=>Γ
abbrev zaN:Expr->Bool|.Call (.Name _ _) [] [] _=>Δ|_=>Γ
abbrev zhm:Expr->Bool|.UnaryOp .Not _ _=>Δ|.BoolOp ..=>Δ|.IfExp ..=>Δ|.Compare ..=>Δ|_=>Γ
set_option backward.match.sparseCases true
def zah(h:zai e=Γ)(es)(env):starEach (e::es) env=(Δ,eval e env)::starEach es env:=by cases e<;>first|rfl|exact nB h
def zbH(h:za8 e=Γ)(t)(l)(env):swapsWith e t l env=pure Δ:=by cases e<;>first|rfl|exact nB h
def zr6(h:zcu e=Γ):zk9 e:=by intro o i;cases e<;>first|rfl|exact nB h
def zeY(h:zaU e=Γ)(op):behindInMarks op e=Δ:=by cases e<;>first|rfl|exact nB h
def zbE(h:zaN e=Γ)(x)(env)(w):attributeBase e x env w=w:=by unfold attributeBase;cases e<;>(try rfl);rename_i f a k _;cases f<;>(try rfl);cases a<;>(try rfl);cases k<;>(try rfl);exact nB h
def zqd(h:zhm e=Γ)(env)(w):isTrue e env w=(do let v <-w;standAt e.pos;holding [v] (truthy v)):=by
 cases e with
 |UnaryOp a x p=>cases a<;>first|rfl|exact nB h
 |_=>first|rfl|exact nB h
def ze6(h:zaU e=Γ)(env)(x):foldedSetIterable e env x=pure x:=by cases e<;>first|rfl|exact nB h
def zaA:∀{es:List Expr},es.all zai=Γ->(backTo pos (starEach es env)).any (·.1)=Δ
 | [],_=>rfl| e::es,h=>by rw[Ϥ,Ε]at h;rw[zah h.1];exact zaA h.2
abbrev BM(b:Str->Option Ξ)(base:Heap):Prop:=∃(a:Addr) (o:Obj),b "__builtins__"=Φ (.ref a)/\a≠builtinsNs/\a≠mainGlobals/\base.get? a=Φ o/\o.cls=.type "module"/\o.dict=Φ builtinsNs/\o.data=.plain
structure Maker(X:Cx)(c P:Addr):Prop where
 bm:BM X.mg X.base
 code:X.env.code=.ref c
 hd:codeHdIn X.K c P=Γ
 mem:(P,X.env.qual ++ "<lambda>")∈Mks.ts
 one:∀p∈Mks.ts,p.1=P->p.2=X.env.qual ++ "<lambda>"
structure Tab where
 blt:List Str
 cons:List (Str×D)
 fns:List (Str×List Str×Nat)
 cls:List Str:=[]
 flds:List Str:=[]
 mts:List (Nat×Str×Nat):=[]
 inits:List (Nat×Nat×Nat):=[]
 cms:List (Str×Str×Nat):=[]
 isas:List (Str×List Nat):=[]
 lam:List Str:=["lambda"]
 lamP:Nat:=0
 xcs:List (Nat×Str×Str):=[]
 xflds:List Str:=[]
 xisas:List (Str×List Nat):=[]
 xisbs:List (Str×List Nat):=[]
 xfns:List Nat:=[]
 xtrs:List Str:=[]
abbrev zmf(a:Scope)(x:Str):Bool:=match a.names.lookup x with|some .local=>Γ|some .cell=>Γ|some .free=>Γ|_=>Δ
abbrev zb5(a:Scope)(x:Str):Bool:=match a.names.lookup x with|some .local=>Γ|some .cell=>Γ|_=>Δ
abbrev isGl(a:Scope)(x:Str):Bool:=match a.names.lookup x with|some .globalImplicit=>Γ|_=>Δ
abbrev eqC:D->D->Bool
 |.non,.non=>Γ|.bl a,.bl b=>a==b|.int a,.int b=>a==b|.str a,.str b=>a==b|_,_=>Δ
def zsq:∀{d e:D},eqC d e=Γ->d=e:=by intro d e h;cases d<;>cases e<;>first|rfl|(simp![eqC,beq_iff_eq]at h;subst h;rfl)|exact nB h
abbrev sV:D->V
 |.non=>.non|.bl b=>.bl b|.int i=>.int i|.str x=>.str x|_=>.non
abbrev zoa:D->Bool
 |.non=>Γ|.bl _=>Γ|.int _=>Γ|.str _=>Γ|_=>Δ
def ztp{K}(h:zoa d=Γ):RV K ι H d (sV d):=by cases d<;>first|rfl|exact nB h
abbrev conB:D->Const->Bool
 |.non,.none=>Γ|.bl a,.bool b=>a==b|.int a,.int b=>a==b|.str a,.str b=>a==b|_,_=>Δ
abbrev bltB(T:Tab)(a:Scope)(x:Str):Bool:=isGl a x&&T.blt.contains x
abbrev spF(K:PySem.W.Frag)(cf:CF)(f:Nat):Sp:=λg H h _=>∃c S e,RVs K c H e g/\RH K c H S/\W (cf f e S) (λd T=>∀v b a,Ext c H a b->RV K a b d v->RH K a b T->h v b)
structure HasM(P:Ο)(w:ϋ)(K:PySem.W.Frag)(mg:Str->Option Ξ)(base:Heap)(k c:Nat)(m:Str)(sp:Sp):Prop where
 ex:∃(C fa:Addr) (fd:FuncData) (ps:List Str),Mks.cl[c]?=Φ C/\Cls K C/\Meth K C m fa/\FnOk P w K mg base CX0 k fa fd ps sp/\Binds K fd ps []
structure HasI(P:Ο)(w:ϋ)(K:PySem.W.Frag)(mg:Str->Option Ξ)(base:Heap)(k c j:Nat)(sp:Sp):Prop where
 ex:∃(C fa:Addr) (fd:FuncData) (ps:List Str),Mks.cl[c]?=Φ C/\Mk K C fa/\FnOk P w K mg base CX0 k fa fd ps sp/\Binds K fd ps (List.replicate j Ξ.none)
structure HasC(P:Ο)(w:ϋ)(K:PySem.W.Frag)(mg:Str->Option Ξ)(base:Heap)(k:Nat)(x m:Str)(sp:Sp):Prop where
 ex:∃(C fa:Addr) (fd:FuncData) (ps:List Str) (mc:Ξ),mg x=Φ (.ref C)/\specialIn K (.ref C) "__getattribute__"=Φ (Φ (.builtin "type.__getattribute__"))/\readsIn K C mc=Γ/\findCls K (.ref C) mc m=Φ (.val (.ref fa))/\
  keepIn K (.ref fa)=Γ/\FnOk P w K mg base CX0 k fa fd ps sp/\Binds K fd ps []
structure IsaOk(K:PySem.W.Frag)(C:Addr):Prop where
 ha:PySem.W.findIn K (.ref C) "__class__"=Φ (Φ (.builtin "object.__class__"))
 hn:specialIn K (.builtin "object.__class__") "__get__"=Φ (Φ (.builtin "getset_descriptor.__get__"))
 ht:takesIn K (.builtin "object.__class__")=Φ Γ
 hm:PySem.W.mroIn K C (.type "object")=Φ Γ
abbrev spX(K:PySem.W.Frag)(cf:CF)(f:Nat):Sp:=λh H i E=>∃e S g,RVs K e H g h/\RH K e H S/\(match cf f g S with|.ok d T=>∀v c b,Ext e H b c->RV K b c d v->RH K b c T->i v c|.err d T=>∀a c b,Ext e H b c->RV K b c d (.ref a)->RH K b c T->E (.ref a) Ψ c|.bad=>False)
structure XTabOk(T:Tab)(cf:CF)(k:Nat)(P:Ο)(w:ϋ)(K:PySem.W.Frag)(mg:Str->Option Ξ)(base:Heap):Prop where
 cl:∀(c:Nat)(x f:Str),T.xcs.contains (c,x,f)=Γ->∃(C fI:Addr) (fd:FuncData) (ps:List Str),Mks.xc[c]?=Φ C/\mg x=Φ (.ref C)/\keepIn K (.ref C)=Γ/\Xc K C fI f/\FnOk P w K mg base CX0 k fI fd ps (spI K fI f)/\Binds K fd ps []
 fl:∀f,T.xflds.contains f=Γ->∀(c:Nat) C,Mks.xc[c]?=Φ C->XGet K C/\NoAttr K C f
 is:∀(x:Str)(cs:List Nat),T.xisas.contains (x,cs)=Γ->∃D,mg x=Φ (.ref D)/\∀(c:Nat) C,Mks.xc[c]?=Φ C->XGet K C/\IsaOk K C/\kitOne K (.ref C) (.ref D)=Φ (cs.contains c)
 ib:∀(x:Str)(cs:List Nat),T.xisbs.contains (x,cs)=Γ->mg x=Ψ/\x≠"__name__"/\∃t,bootBuiltins x=Φ (.type t)/\∀(c:Nat) C,Mks.xc[c]?=Φ C->XGet K C/\IsaOk K C/\kitOne K (.ref C) (.type t)=Φ (cs.contains c)
 fn:∀(f:Nat)(x:Str)(ps:List Str)(nd:Nat),T.xfns.contains f=Γ->T.fns[f]?=Φ (x,ps,nd)->∃fa fd,FnOk P w K mg base (CXe P w) k fa fd ps (spX K cf f)/\mg x=Φ (.ref fa)/\keepIn K (.ref fa)=Γ/\Binds K fd ps []
 tr:∀x,T.xtrs.contains x=Γ->∃CR,mg x=Φ (.ref CR)/\∀(c:Nat) C,Mks.xc[c]?=Φ C->PySem.W.exmOne K (.ref C) (.ref CR)=Φ Γ
structure HasMX(P:Ο)(w:ϋ)(K:PySem.W.Frag)(mg:Str->Option Ξ)(base:Heap)(k c:Nat)(m:Str)(sp:Sp):Prop where
 ex:∃(C fa:Addr) (fd:FuncData) (ps:List Str),Mks.cl[c]?=Φ C/\Cls K C/\Meth K C m fa/\FnOk P w K mg base (CXe P w) k fa fd ps sp/\Binds K fd ps []
structure HasIX(P:Ο)(w:ϋ)(K:PySem.W.Frag)(mg:Str->Option Ξ)(base:Heap)(k c j:Nat)(sp:Sp):Prop where
 ex:∃(C fa:Addr) (fd:FuncData) (ps:List Str),Mks.cl[c]?=Φ C/\Mk K C fa/\FnOk P w K mg base (CXe P w) k fa fd ps sp/\Binds K fd ps (List.replicate j Ξ.none)
structure TabOk(T:Tab)(cf:CF)(k:Nat)(P:Ο)(w:ϋ)(K:PySem.W.Frag)(mg:Str->Option Ξ)(base:Heap):Prop where
 blt:∀x,T.blt.contains x=Γ->mg x=Ψ
 con:∀x d,T.cons.lookup x=Φ d->zoa d=Γ/\∃u,mg x=Φ u/\RelV (sV d) u
 fns:∀f x ps nd,T.fns[f]?=Φ (x,ps,nd)->∀j,j<=nd->Has P w K mg base k x ps (List.replicate j .non) (spF K cf f)
 frm:CFok cf
 cls:∀(c:Nat)(x:Str),T.cls[c]?=Φ x->∃C,Mks.cl[c]?=Φ C/\Cls K C/\mg x=Φ (.ref C)/\∀f,T.flds.contains f=Γ->NoAttr K C f
 mth:∀(c:Nat)(m:Str)(fi:Nat),T.mts.contains (c,m,fi)=Γ->HasM P w K mg base k c m (spF K cf fi)
 ini:∀(c fi j:Nat),T.inits.contains (c,fi,j)=Γ->HasI P w K mg base k c j (spF K cf fi)
 cmd:∀(x m:Str)(fi:Nat),T.cms.contains (x,m,fi)=Γ->HasC P w K mg base k x m (spF K cf fi)
 cln:(T.flds≠[]\/T.inits≠[]\/T.isas≠[])->Mks.cl.length<=T.cls.length
 isa:∀(x:Str)(cs:List Nat),T.isas.contains (x,cs)=Γ->∃D,mg x=Φ (.ref D)/\∀c C,Mks.cl[c]?=Φ C->IsaOk K C/\kitOne K (.ref C) (.ref D)=Φ (cs.contains c)
 xtb:XTabOk T cf k P w K mg base
 inx:∀(c fi j:Nat),T.inits.contains (c,fi,j)=Γ->HasIX P w K mg base k c j (spX K cf fi)
 mtx:∀(c:Nat)(m:Str)(fi:Nat),T.mts.contains (c,m,fi)=Γ->HasMX P w K mg base k c m (spX K cf fi)
structure Gd(T:Tab)(cf:CF)(k:Nat)(N:List Str)(sc:Scope)(X:Cx):Prop where
 nm:X.N=N
 nd:N.Nodup
 loc:∀x,sc.names.lookup x=Φ .local->X.env.scope.names.lookup x=Φ .local
 cell:∀x,sc.names.lookup x=Φ .cell->X.env.scope.names.lookup x=Φ .cell
 free:∀x,sc.names.lookup x=Φ .free->X.env.scope.names.lookup x=Φ .free\/X.env.scope.names.lookup x=Φ .cell
 glob:∀x,sc.names.lookup x=Φ .globalImplicit->X.env.scope.names.lookup x=Φ .globalImplicit
 fn:(∀x,X.fn x=Γ)\/∀x,sc.names.lookup x≠Φ .cell
 calm:X.calm=Γ
 xe:PassesOwn (model X.prog X.w) X.A X.env X.xe
 room':Room (k+1) X.A
 tab:TabOk T cf k X.prog X.w X.K X.mg X.base
 lam:N=T.lam->3<=k/\∃c,Maker X c T.lamP
section
variable{T:Tab}{cf:CF}{k:Nat}{N:List Str}{sc:Scope}{X:Cx}
def Gd.room(G:Gd T cf k N sc X):Room k X.A:=G.room'.mono (le_succ k)
def Gd.hu(G:Gd T cf k N sc X):X.A.units+128<cLine:=by have:=G.room.un;lia
def Gd.vis(G:Gd T cf k N sc X)(h:zmf sc x=Γ):Vis X.env.scope x:=by unfold zmf at h;split at h;rename_i e;exact .inl (G.loc x e);rename_i e;exact .inr (.inl (G.cell x e));rename_i e;rcases G.free x e with q|q;exact .inr (.inr q);exact .inr (.inl q);exact nB h
def Gd.lc(G:Gd T cf k N sc X)(h:zb5 sc x=Γ):Loc X.env.scope x/\(X.fn x=Γ\/X.env.scope.names.lookup x=Φ .local):=by unfold zb5 at h;split at h;rename_i e;exact⟨.inl (G.loc x e),.inr (G.loc x e)⟩;rename_i e;refine⟨.inr (G.cell x e),?_⟩;rcases G.fn with q|q;exact .inl (q x);exact absurd e (q x);exact nB h
def Gd.gl(G:Gd T cf k N sc X)(h:isGl sc x=Γ):Gl X x:=by unfold isGl at h;split at h;rename_i e;exact G.glob x e;exact nB h
end
abbrev RS(K:PySem.W.Frag)(ι:List Addr)(H:Hp)(δ:Ev)(a:L2.St):Prop:=δ.length=a.length/\∀(i:Nat)(d:D),δ[i]?=Φ (Φ d)->∃v,a[i]?=Φ (Φ v)/\RV K ι H d v
def RS.ext{K}(h:RS K ι H δ a)(x:Ext ι H ι' H'):RS K ι' H' δ a:=⟨h.1,λi d e=>let ⟨v,b,r⟩:=h.2 i d e;⟨v,b,r.ext x⟩⟩
def RS.set{K}(h:RS K ι H δ f)(r:RV K ι H d v)(i):RS K ι H (δ.set i (Φ d)) (f.set i (Φ v)):=by
 refine⟨by simp[h.1],λj e b=>?_⟩;by_cases a:i=j;subst a;have c:i<δ.length:=by have:=(Α.mp b).1;simpa using this
 rw[getElem?_set_self c]at b;cases b;exact⟨v,getElem?_set_self (by rw[<-h.1];exact c),r⟩;rw[getElem?_set_ne a]at b;let⟨g,k,l⟩:=h.2 j e b;exact⟨g,by rw[getElem?_set_ne a];exact k,l⟩
abbrev tE(K:PySem.W.Frag)(cf:CF)(d:CE):TE:=λe H f=>∃b a S Q,RS K a H b e/\RH K a H S/\W (evE cf d b S) Q/\∀v c,Lf K a H Q v c->f v c
abbrev LfB(K:PySem.W.Frag)(ι:List Addr)(H:Hp)(Q:Bool->R.St->Prop):Bool->Hp->Prop:=λb c=>∃a d,Ext ι H a c/\RH K a c d/\Q b d
abbrev tT(K:PySem.W.Frag)(cf:CF)(e:CE):TT:=λf H g=>∃c a S Q,RS K a H c f/\RH K a H S/\W (evT cf e c S) Q/\∀b d,LfB K a H Q b d->g b d
abbrev LfA(K:PySem.W.Frag)(ι:List Addr)(H:Hp)(Q:List D->R.St->Prop):List V->Hp->Prop:=λe b=>∃c a d,Ext ι H a b/\RVs K a b c e/\RH K a b d/\Q c d
abbrev tAs(K:PySem.W.Frag)(cf:CF)(a:CEs):TA:=λf H g=>∃c b S Q,RS K b H c f/\RH K b H S/\W (evEs cf a c S) Q/\∀d e,LfA K b H Q d e->g d e
inductive SqK(K:PySem.W.Frag)(ι:List Addr)(H:Hp)(S:R.St)(a:Addr)(xs:List V)(ds:List D)(lks:List Nat):Prop where
 |tmp (h:a∉ι) (e:H a=Φ (.lst xs)):SqK K ι H S a xs ds lks
 |tup (e:H a=Φ (.tup xs)):SqK K ι H S a xs ds lks
 |fix (e:FixL K H a xs):SqK K ι H S a xs ds lks
 |own (l:Nat) (hl:l∈lks) (hi:ι[l]?=Φ a) (hs:S.get l=Φ (.lst ds)) (e:H a=Φ (.lst xs)):SqK K ι H S a xs ds lks
abbrev Sq(K:PySem.W.Frag)(ι:List Addr)(H:Hp)(S:R.St)(v:V)(ds:List D)(b:List Nat):Prop:=∃a c,v=.ref a/\RVs K ι H ds c/\SqK K ι H S a c ds b
abbrev LfL(K:PySem.W.Frag)(ι:List Addr)(H:Hp)(Q:List D×List Nat->R.St->Prop):VK:=λv c=>∃e b a d,Ext ι H a c/\Sq K a c d v e b/\RH K a c d/\Q (e,b) d
abbrev tL(K:PySem.W.Frag)(cf:CF)(cl:CL):TE:=λd H e=>∃b a S Q,RS K a H b d/\RH K a H S/\W (evL cf cl b S) Q/\∀v c,LfL K a H Q v c->e v c
abbrev LfT(K:PySem.W.Frag)(ι:List Addr)(H:Hp)(Q:List D×List Nat->R.St->Prop):VK:=λv c=>∃d b e a f,Ext ι H b c/\v=.ref a/\RVs K b c d f/\a∉b/\c a=Φ (.lst f)/\RH K b c e/\H a=Ψ/\Q (d,[]) e
abbrev tLt(K:PySem.W.Frag)(cf:CF)(cl:CL):TE:=λd H e=>∃b a S Q,RS K a H b d/\RH K a H S/\W (evL cf cl b S) Q/\∀v c,LfT K a H Q v c->e v c
def LfT.l{K}(h:LfT K ι H Q v H'):LfL K ι H Q v H':=by let⟨b,ι',c,a,d,x,rfl,r,f,e,g,_,q⟩:=h;exact⟨b,[],ι',c,x,⟨a,d,rfl,r,.tmp f e⟩,g,q⟩
def PE.imp(h:PE X e t)(i:∀a H Q,t' a H Q->t a H Q):PE X e t':=λb s a H Q I q=>h b s a H Q I (i a H Q q)
def PT.imp(h:PT X e t)(i:∀a H Q,t' a H Q->t a H Q):PT X e t':=λb s a H Q I q=>h b s a H Q I (i a H Q q)
def PW.imp(h:PW X e t)(i:∀a H Q,t' a H Q->t a H Q):PW X e t':=λc b s a H Q I q=>h c b s a H Q I (i a H Q q)
def PA.imp(h:PA X es t)(i:∀a H Q,t' a H Q->t a H Q):PA X es t':=λpos b s a H Q I q=>h pos b s a H Q I (i a H Q q)
def tE.run{K}(hs:RS K ι H δ e)(f:RH K ι H S)(w:W (evE cf a δ S) Q)(h:∀d v ι' H' b,Ext ι H ι' H'->RS K ι' H' δ e->RH K ι' H' b->RV K ι' H' d v->Q d b->g v H'):tE K cf a e H g:=
 ⟨δ,ι,S,Q,hs,f,w,λv H' z=>(by let⟨d,ι',b,x,r,c,q⟩:=z;exact h d v ι' H' b x (hs.ext x) c r q)⟩
def tT.run{K}(hs:RS K ι H δ e)(f:RH K ι H S)(w:W (evT cf a δ S) Q)(h:∀b ι' H' c,Ext ι H ι' H'->RS K ι' H' δ e->RH K ι' H' c->Q b c->g b H'):tT K cf a e H g:=
 ⟨δ,ι,S,Q,hs,f,w,λb H' z=>(by let⟨ι',c,x,d,q⟩:=z;exact h b ι' H' c x (hs.ext x) d q)⟩
def tAs.run{K}(hs:RS K ι H δ e)(f:RH K ι H S)(w:W (evEs cf a δ S) Q)(h:∀ds vs ι' H' b,Ext ι H ι' H'->RS K ι' H' δ e->RH K ι' H' b->RVs K ι' H' ds vs->Q ds b->g vs H'):tAs K cf a e H g:=
 ⟨δ,ι,S,Q,hs,f,w,λv H' z=>(by let⟨d,ι',b,x,r,c,q⟩:=z;exact h d v ι' H' b x (hs.ext x) c r q)⟩
def PE.ofT(h:PE X e (tLt X.K cf cl)):PE X e (tL X.K cf cl):=PE.imp h λd H f z=>(by let⟨a,ι,S,Q,b,c,w,q⟩:=z;exact ⟨a,ι,S,Q,b,c,w,λv H' l=>q v H' l.l⟩)
def tLt.run{K}(hs:RS K ι H δ d)(f:RH K ι H S)(w:W (evL cf a δ S) Q)(h:∀ds p xs ι' H' b,Ext ι H ι' H'->RS K ι' H' δ d->RH K ι' H' b->RVs K ι' H' ds xs->p∉ι'->H' p=Φ (.lst xs)->H p=Ψ->Q (ds,[]) b->g (.ref p) H'):tLt K cf a d H g:=
 ⟨δ,ι,S,Q,hs,f,w,λv H' z=>(by let⟨ds,ι',b,p,xs,x,e,r,i,j,c,k,q⟩:=z;exact e▸h ds p xs ι' H' b x (hs.ext x) c r i j k q)⟩
def tL.run{K}(hs:RS K ι H δ e)(f:RH K ι H S)(w:W (evL cf a δ S) Q)(h:∀ds b v ι' H' c,Ext ι H ι' H'->RS K ι' H' δ e->RH K ι' H' c->Sq K ι' H' c v ds b->Q (ds,b) c->g v H'):tL K cf a e H g:=
 ⟨δ,ι,S,Q,hs,f,w,λv H' z=>(by let⟨ds,b,ι',c,x,r,d,q⟩:=z;exact h ds b v ι' H' c x (hs.ext x) d r q)⟩
section
variable{T:Tab}{cf:CF}{k:Nat}{N:List Str}{sc:Scope}{X:Cx}{pos:Pos}
def zfj(h:W o Q):∃a S,o=.ok a S/\Q a S:=W.iff.mp h
def zau(h:W (lift S o) Q):∃a,o=Φ a/\Q a S:=by cases o with|none=>exact h.elim|some a=>exact⟨a,rfl,h⟩
def zqL(G:Gd T cf k N sc X)(b:N[i]?=Φ x)(c:zmf sc x=Γ)(f:(x==("__debug__":Str))=Δ)(g:(x==("__classdict__":Str))=Δ):PE X (.Name x pos) (tE X.K cf (.loc i)):=by
 refine PE.imp (zem (by rw[G.nm];exact b) (G.vis c) f g) λp H s y=>?_;let⟨a,t,S,Q,h,j,w,q⟩:=y;let⟨d,e,l⟩:=zau w;have m:a[i]?=Φ (Φ d):=by
  cases z:a[i]? with
  |none=>rw[z]at e;exact nS e
  |some o=>rw[z]at e;simp at e;rw[e]
 let⟨v,n,r⟩:=h.2 i d m;exact⟨v,n,q v H (Lf.of j r l)⟩
def zqO(h:conB d c=Γ):PE X (.Constant c j pos) (tE X.K cf (.con d)):=by
 have a:∀{v:V},PE X (.Constant c j pos) (tC v)->(∀K b H,RV K b H d v)->PE X (.Constant c j pos) (tE X.K cf (.con d)):=λ{v} e f=>PE.imp e λi H l z=>(by let⟨m,b,S,Q,n,g,w,q⟩:=z;exact q v H (Lf.of g (f _ _ _) w))
 cases d<;>cases c<;>first
  |exact a zrn λ_ _ _=>rfl
  |exact nB h
  |(simp![conB,beq_iff_eq]at h;subst h;exact a zjN λ_ _ _=>rfl)
  |(simp![conB,beq_iff_eq]at h;subst h;exact a ztz λ_ _ _=>rfl)
  |(simp![conB,beq_iff_eq]at h;subst h;exact a zm1 λ_ _ _=>rfl)
def zn2(G:Gd T cf k N sc X)(b:isGl sc x=Γ)(c:T.cons.lookup x=Φ d')(f:eqC d' d=Γ)(g:(x==("__debug__":Str))=Δ):PE X (.Name x pos) (tE X.K cf (.con d)):=by have e:=zsq f;subst e;let⟨a,u,h,r⟩:=G.tab.con x d' c;exact PE.imp (zeU (G.gl b) h r g) λj H l z=>(by let⟨m,n,S,Q,o,i,w,q⟩:=z;exact q (sV d') H (Lf.of i (ztp a) w))
def zqQ(j:PE X a (tE X.K cf m))(n:PE X b (tE X.K cf o)):PE X (.BinOp a op b pos) (tE X.K cf (.bin op m o)):=by refine PE.imp (zrl (zsy op) j n) λI H J k=>?_;let⟨L,M,S,Q,p,r,w,q⟩:=k;change W (Out.bind _ _) _ at w;simp![zab] at w;exact tE.run p r w λd v s O U t c f x y=>tE.run c f y λe u g Y A i B h C E=>⟨g,A,d,e,Q,x.ext i,C,h,E,λz G l=>q z G (Lf.up (t.trans i) l)⟩
def zqG(e:PE X a (tE X.K cf f)):PE X (.UnaryOp .USub a pos) (tE X.K cf (.neg f)):=by refine PE.imp (ztx zp8 e) λo H p z=>?_;let⟨r,s,S,Q,g,h,w,q⟩:=z;change W (Out.bind _ _) _ at w;simp![zab] at w;refine tE.run g h w λd v j t u l m b n c=>?_;cases d with| int i=>obtain rfl:v=.int i:=n;exact⟨i,rfl,q _ _ (Lf.up l (Lf.of (d:=.int (-i)) b rfl c))⟩|_=>exact c.elim
def zti(e:PE X a (tE X.K cf f)):PE X (.UnaryOp .Not a pos) (tE X.K cf (.nt f)):=by refine PE.imp (zrm e) λo H p z=>?_;let⟨r,s,S,Q,g,h,w,q⟩:=z;change W (Out.bind _ _) _ at w;simp![zab] at w;refine tE.run g h w λd v j t u l m b n c=>?_;cases d with| bl i=>obtain rfl:v=.bl i:=n;exact⟨i,rfl,q _ _ (Lf.up l (Lf.of (d:=.bl (!i)) b rfl c))⟩|_=>exact c.elim
def zqP(G:Gd T cf k N sc X)(l:PE X a (tE X.K cf m))(f:PE X b (tE X.K cf n))(o:zaU b=Γ):PE X (.Compare a [op] [b] pos) (tE X.K cf (.cmp op m n)):=by refine PE.imp (zoG (zex G.hu op) l f (zeY o op)) λJ H L z=>?_;let⟨M,O,S,Q,p,r,w,q⟩:=z;change W (Out.bind _ _) _ at w;simp![zab] at w;refine tE.run p r w λd v s U Y t g h x y=>tE.run g h y λe u i H2 A j B c C E=>?_;let⟨b,f,I⟩:=zau E;exact⟨i,A,d,e,b,x.ext j,C,c,f,q _ _ (Lf.up (t.trans j) (Lf.of (d:=.bl b) c rfl I))⟩
def zqs(G:Gd T cf k N sc X)(m:PE X a (tE X.K cf n))(g:PE X b (tE X.K cf o))(p:zaU b=Γ):PT X (.Compare a [op] [b] pos) (tT X.K cf (.cmp op n o)):=by refine PT.imp (zou (zex G.hu op) m g (zeY p op)) λJ H L z=>?_;let⟨M,O,S,Q,r,s,w,q⟩:=z;change W (Out.bind _ _) _ at w;simp![zab] at w;refine tE.run r s w λd v t U Y x h i y A=>tE.run h i A λe u c H2 j l B f C E=>?_;let⟨b,g,I⟩:=zau E;exact⟨c,j,d,e,b,y.ext l,C,f,g,b,rfl,q _ _ ⟨c,j,x.trans l,f,I⟩⟩
def zn8(G:Gd T cf k N sc X)(A:PE X a (tE X.K cf B))(g:PE X b (tE X.K cf C))(E:PE X c (tE X.K cf I))(hm:zaU b=Γ)(j:zaU c=Γ):
  PE X (.Compare a [op,h] [b,c] pos) (tE X.K cf (.cmp2 op h B C I)):=by
 refine PE.imp (zlY (zex G.hu op) (zex G.hu h) A g E (by simp[lastMarks,zeY j])) λσ H Qv z=>?_;let⟨δ,ι,S,Q,J,L,w,q⟩:=z;change W (Out.bind _ _) _ at w;simp![zab] at w;refine tE.run J L w λd v M H1 S1 t l m O U=>tE.run l m U λe u n H2 Y o p f x w2=>?_;let⟨b,g,r⟩:=zau w2;refine⟨n,Y,d,e,b,O.ext o,x,f,g,b,rfl,?_⟩;cases b with|false=>exact q _ _ (Lf.up (t.trans o) (Lf.of (d:=.bl Δ) f rfl r))| true=>simp![if_true,zab]at r⊢;refine tE.run p f r λe' u' s H3 S3 y hs3 i r3 w4=>?_;let⟨b,g,w5⟩:=zau w4;exact⟨s,S3,e,e',b,x.ext y,r3,i,g,q _ _ (Lf.up ((t.trans o).trans y) (Lf.of (d:=.bl b) i rfl w5))⟩
def znF(G:Gd T cf k N sc X)(C:PE X a (tE X.K cf E))(g:PE X b (tE X.K cf I))(J:PE X c (tE X.K cf L))(hm:zaU b=Γ)(m:zaU c=Γ):
  PT X (.Compare a [op,h] [b,c] pos) (tT X.K cf (.cmp2 op h E I L)):=by
 refine PT.imp (zlG (zex G.hu op) (zex G.hu h) C g J (by simp[lastMarks,zeY m])) λσ H Qv z=>?_;let⟨δ,ι,S,Q,M,O,w,q⟩:=z;change W (Out.bind _ _) _ at w;simp![zab] at w;refine tE.run M O w λd v U H1 S1 t n o Y w1=>tE.run n o w1 λe u i H2 x p r f y w2=>?_;let⟨b,g,s⟩:=zau w2;refine⟨i,x,d,e,b,Y.ext p,y,f,g,b,rfl,?_⟩;cases b with|false=>exact⟨Δ,rfl,q _ _ ⟨i,x,t.trans p,f,s⟩⟩| true=>simp![if_true,zab]at s⊢;refine tE.run r f s λe' u' j H3 A B hs3 l r3 w4=>?_;let⟨b,g,w5⟩:=zau w4;exact⟨j,A,e,e',b,y.ext B,r3,l,g,b,rfl,q _ _ ⟨j,A,(t.trans p).trans B,l,w5⟩⟩
def zmU(j:PE X a (tE X.K cf m))(n:PE X (.BoolOp .And (b::rest) pos) (tE X.K cf o)):PE X (.BoolOp .And (a::b::rest) pos) (tE X.K cf (.and m o)):=by
 refine PE.imp (zrv j n) λy H A k=>?_;let⟨p,B,S,Q,r,s,w,q⟩:=k;change W (Out.bind _ _) _ at w;simp![zab] at w;refine tE.run r s w λd v f C t i g e u h=>?_;cases d with
 |bl c=>obtain rfl:v=.bl c:=u;refine⟨c,rfl,?_⟩;cases c with|false=>exact q _ _ (Lf.up i (Lf.of (d:=.bl Δ) e rfl h))|true=>exact⟨p,f,t,Q,g,e,h,λz x l=>q z x (Lf.up i l)⟩
 |_=>exact h.elim
def zqF(j:PE X a (tE X.K cf m))(n:PE X (.BoolOp .Or (b::rest) pos) (tE X.K cf o)):PE X (.BoolOp .Or (a::b::rest) pos) (tE X.K cf (.or m o)):=by
 refine PE.imp (zty j n) λy H A k=>?_;let⟨p,B,S,Q,r,s,w,q⟩:=k;change W (Out.bind _ _) _ at w;simp![zab] at w;refine tE.run r s w λd v f C t i g e u h=>?_;cases d with
 |bl c=>obtain rfl:v=.bl c:=u;refine⟨c,rfl,?_⟩;cases c with|true=>exact q _ _ (Lf.up i (Lf.of (d:=.bl Γ) e rfl h))|false=>exact⟨p,f,t,Q,g,e,h,λz x l=>q z x (Lf.up i l)⟩
 |_=>exact h.elim
def LfB.up{K}(x:Ext ι H ι' H')(h:LfB K ι' H' Q b c):LfB K ι H Q b c:=by let⟨a,d,e,r⟩:=h;exact⟨a,d,x.trans e,r⟩
def zmP(j:PT X a (tT X.K cf m))(n:PW X (.BoolOp .And (b::rest) pos) (tT X.K cf o)):PW X (.BoolOp .And (a::b::rest) pos) (tT X.K cf (.and m o)):=by refine PW.imp (zra j n) λu H v k=>?_;let⟨p,x,S,Q,r,s,w,q⟩:=k;change W (Out.bind _ _) _ at w;simp![zab] at w;refine tT.run r s w λc d y g h f e i=>?_;cases c with|false=>exact q _ _ ⟨d,g,h,e,i⟩|true=>exact⟨p,d,g,Q,f,e,i,λz t l=>q z t (LfB.up h l)⟩
def zqr(j:PT X a (tT X.K cf m))(n:PW X (.BoolOp .Or (b::rest) pos) (tT X.K cf o)):PW X (.BoolOp .Or (a::b::rest) pos) (tT X.K cf (.or m o)):=by refine PW.imp (ztv j n) λu H v k=>?_;let⟨p,x,S,Q,r,s,w,q⟩:=k;change W (Out.bind _ _) _ at w;simp![zab] at w;refine tT.run r s w λc d y g h f e i=>?_;cases c with|true=>exact q _ _ ⟨d,g,h,e,i⟩|false=>exact⟨p,d,g,Q,f,e,i,λz t l=>q z t (LfB.up h l)⟩
def ztg(e:PT X a (tT X.K cf f)):PT X (.UnaryOp .Not a pos) (tT X.K cf (.nt f)):=by refine PT.imp (zrb e) λn H o z=>?_;let⟨p,r,S,Q,g,h,w,q⟩:=z;change W (Out.bind _ _) _ at w;simp![zab] at w;exact tT.run g h w λc b s i j l d m=>q _ _ ⟨b,i,j,d,m⟩
def zqe(o:RH X.K ι H S)(r:RV X.K ι H d v)(h:tru S d=Φ b):TruV X.K v H b:=by
 cases d with
 |non=>obtain rfl:v=.non:=r;cases h;rfl|bl c=>obtain rfl:v=.bl c:=r;cases h;rfl|int i=>obtain rfl:v=.int i:=r;cases h;rfl| tup g=>let⟨a,f,rfl,j,m⟩:=r;cases h;refine .inr (.inl ⟨f,SqT.of j,?_⟩);have:=m.length;cases g<;>cases f<;>first|rfl|simp at this
 |ref l=>
  simp![tru]at h;split at h
  . rename_i g e;cases h;let⟨a,p,rfl⟩:=r;let⟨q,n,f,j,m⟩:=o.obj _ _ e;rw[p]at n;cases n;refine .inl ⟨f,SqL.of j,?_⟩;have:=m.length;cases g<;>cases f<;>first|rfl|simp at this
  exact nS h
 |_=>exact nS h
def zqq(f:PE X a (tE X.K cf g))(h:zhm a=Γ):PT X a (tT X.K cf (.tst g)):=by refine PT.imp (zlF f (zqd h X.env)) λt H u z=>?_;let⟨x,y,S,Q,i,j,w,q⟩:=z;change W (Out.bind _ _) _ at w;simp![zab] at w;refine tE.run i j w λd v e A l m n c o p=>?_;let⟨b,r,s⟩:=zau p;exact⟨b,zqe c o r,q _ _ ⟨e,l,m,c,s⟩⟩
def zqM(n:PT X c (tT X.K cf o))(p:PE X a (tE X.K cf r))(s:PE X b (tE X.K cf t)):PE X (.IfExp c a b pos) (tE X.K cf (.ite o r t)):=by refine PE.imp (zhn n p s) λx H y k=>?_;let⟨h,A,S,Q,u,v,w,q⟩:=k;change W (Out.bind _ _) _ at w;simp![zab] at w;refine tT.run u v w λc d B i j e f m=>?_;cases c with|true=>exact⟨h,d,i,Q,e,f,m,λz g l=>q z g (Lf.up j l)⟩|false=>exact⟨h,d,i,Q,e,f,m,λz g l=>q z g (Lf.up j l)⟩
def zmV:PA X [] (tAs X.K cf .nil):=PA.imp zcs λc H d z=>(by let⟨e,a,S,Q,f,b,w,q⟩:=z;exact q [] H ⟨[],a,S,Ext.refl _ _,rfl,b,by simpa[evEs]using w⟩)
def zji(j:PE X e (tE X.K cf l))(a:PA X es (tAs X.K cf b))(m:zai e=Γ):PA X (e::es) (tAs X.K cf (.cons l b)):=by refine PA.imp (zaT j a (zah m es X.env)) λE H G z=>?_;let⟨I,J,S,Q,n,o,w,q⟩:=z;simp![evEs,zab]at w;exact tE.run n o w λd v p L M r c f s t=>tAs.run c f t λu x g O y i A h B C=>(q _ _ ⟨d::u,g,y,r.trans i,⟨v,x,rfl,s.ext i,B⟩,h,C⟩)
def zqD(h:PA X es (tAs X.K cf a)):PE X (.Tuple es j pos) (tE X.K cf (.tup a)):=by refine PE.imp (zrk h) λo H r z=>?_;let⟨s,t,S,Q,f,g,w,q⟩:=z;change W (Out.bind _ _) _ at w;simp![zab] at w;refine tAs.run f g w λu v i x y l m b e d=>?_;split at d;rename_i c;exact⟨by rw[e.length];exact c,λp n=>q _ _ (Lf.up l (Lf.tup b n e d))⟩;exact d.elim
def zqK(h:PA X es (tAs X.K cf a)):PE X (.List es pos) (tE X.K cf (.lst a)):=by refine PE.imp (zro h) λo H r z=>?_;let⟨s,t,S,Q,e,f,w,q⟩:=z;change W (Out.bind _ _) _ at w;simp![zab] at w;refine tAs.run e f w λu v g x y i j b d l=>?_;let⟨c,m⟩:=zdH l;exact⟨by rw[d.length];exact c,λp n=>q _ _ (Lf.up i (Lf.lst b n d m))⟩
def zn6:PE X (.Dict [] [] pos) (tE X.K cf .dnew):=by refine PE.imp zlW λd H e z=>?_;let⟨f,c,S,Q,g,a,w,q⟩:=z;intro p b;exact q _ _ ⟨.ref S.len,c++[p],S.push (.dic []),Ext.obj a b _,⟨p,a.last p,rfl⟩,a.obj' b _ _ ⟨List.nodup_nil,[],zag,rfl⟩,w⟩
def zr5(n:RH X.K ι H S)(r:RV X.K ι H d v)(o:zbe S d=Φ ds)(b:R.atI ds i=Φ e):∃u,rIx X.K v (.int i) H (λz H'=>z=u/\H'=H)/\RV X.K ι H e u:=by
 let⟨a,f,rfl,c,m⟩:=zmT n o r;have p:=m.length;have key:∃u,L2.atI f i=Φ u/\RV X.K ι H e u:=by
  unfold R.atI at b;cases h:R.ixN ds.length i with
  |none=>rw[h]at b;exact nS b
  |some j=>
   rw[h]at b;let⟨u,g,l⟩:=m.get (show ds[j]?=Φ e from b);refine⟨u,?_,l⟩;unfold L2.atI;have:L2.ixN f.length i=Φ j:=by rw[p];exact h
   rw[this];exact g
 let⟨u,g,l⟩:=key;refine⟨u,?_,l⟩;rcases c with c|c;exact .inl ⟨a,f,i,u,rfl,rfl,c,g,rfl,rfl⟩;exact .inr (.inl ⟨a,f,i,u,rfl,rfl,c,g,rfl,rfl⟩)
def zjA{K}(h:rIx K x y H (λz H'=>z=u/\H'=H))(q:Q u H):rIx K x y H Q:=by rcases h with⟨p,f,i,v,a,b,d,e,rfl,_⟩|⟨p,f,i,v,a,b,d,e,rfl,_⟩|⟨z,i,c,a,b,d,e,g,_⟩;exact .inl ⟨p,f,i,v,a,b,d,e,q⟩;exact .inr (.inl ⟨p,f,i,v,a,b,d,e,q⟩);exact .inr (.inr ⟨z,i,c,a,b,d,e,by rw[g];exact q⟩)
def ztl(l:PE X a (tE X.K cf m))(n:PE X b (tE X.K cf o))(p:zcu b=Γ):PE X (.Subscript a b pos) (tE X.K cf (.ix m o)):=by refine PE.imp (zrq zm8 l n (zr6 p)) λO H U k=>?_;let⟨Y,ι,S,Q,r,s,w,q⟩:=k;change W (Out.bind _ _) _ at w;simp![zab] at w;refine tE.run r s w λd v t H1 S1 x f g y A=>tE.run f g A λe u B H2 S2 j C c E h=>?_;split at h;rename_i ds i G;let⟨z,I,J⟩:=zau h;obtain rfl:u=.int i:=E;let⟨u,L,M⟩:=zr5 c (y.ext j) G I;exact zjA L (q _ _ (Lf.up (x.trans j) (Lf.of c M J)));exact h.elim
end
section
variable{K:PySem.W.Frag}{ι ι':List Addr}{H H':Hp}{S T:R.St}{d:D}{v:V}
def get_frz(hf:T.frz=S.frz++S.new)(h:S.get l=Φ o):T.get l=Φ o:=by let⟨f,n,k⟩:=T;subst hf;exact zpj h n k
def RH.cut(m:RH K ι H S)(x:Ext ι H ι' H')(q:RH K ι' H' T)(hf:T.frz=S.frz++S.new):RH K ι H' S:=by refine⟨m.len,m.nd,λl o e=>?_,q.tab⟩;let⟨a,r,j⟩:=m.obj l o e;let⟨b,s,k⟩:=q.obj l o (get_frz hf e);rw[zbK x.pre r]at s;cases s;refine⟨a,r,?_⟩;cases o with| lst B=>let⟨E,_,f⟩:=j;let⟨g,h,i⟩:=k;exact⟨g,h,i.restrict x.pre f.flats⟩| dic u=>let⟨_,t,_,f⟩:=j;let⟨w,g,h,i⟩:=k;exact⟨w,g,h,i.restrict x.pre f.flats⟩| ins c y=>let⟨_,_,t,_,_,f⟩:=j;let⟨C,n,g,p,h,i⟩:=k;exact⟨C,n,g,p,h,i.restrict x.pre f.flats⟩| exc c y=>let⟨_,_,_,t,_,_,_,f⟩:=j;let⟨C,n,z,g,p,A,h,i⟩:=k;exact⟨C,n,z,g,p,A,h,i.restrict x.pre f.flats⟩
def Ext.cut(x:Ext ι H ι' H'):Ext ι H ι H':=⟨ϛ _,x.kp,λa o h e=>⟨(x.rest a o h e).1,h⟩⟩
def zow(c:ι <+: ι')(nd:ι'.Nodup)(b:ι'[l]?=Φ a)(h:ι.length<=l):a∉ι:=λe=>by let⟨t,rfl⟩:=c;rw[getElem?_append_right h]at b;have f:=mem_of_getElem? b;exact(nodup_append.mp nd).2.2 a e a f rfl
def zkH(x:Ext ι H ι' H')(nd:ι'.Nodup)(f:ι'[l]?=Φ a)(h:ι.length<=l):Ext ι H (ι++[a]) H':=by refine⟨ύ _ _,x.kp,λb o c e=>⟨(x.rest b o c e).1,λz=>?_⟩⟩;rcases mem_append.mp z with z|z;exact c z;simp at z;subst z;exact(x.rest b o c e).2 (mem_of_getElem? f)
def RH.one{l:Nat}{a:Addr}{o:MO}(f:RH K ι H' S)(nd:a∉ι)(i:RO K (ι++[a]) H' a o):RH K (ι++[a]) H' (S.push o):=by
 refine⟨by rw[length_append,f.len,zbV];rfl,?_,λl j e=>?_,f.tab⟩;rw[nodup_append];refine⟨f.nd,by simp,λb k c h=>?_⟩;simp at h;subst h;exact λz=>nd (z▸k);by_cases m:l<S.len;rw[zcg m]at e;let⟨b,n,p⟩:=f.obj l j e;exact⟨b,zbK (ύ _ _) n,p.up (ύ _ _) (Kp.refl _) rfl⟩;have g:=zak e;rw[zbV]at g;have:l=S.len:=by lia
 subst this;rw[ze5]at e;cases e;exact⟨a,by rw[<-f.len];simp,i⟩
def RH.keep(a:RH K ι' H' T)(c:T.frz=S.frz++S.new):RH K ι' H' ⟨S.frz,S.new++T.new,S.lk⟩:=by
 have g:∀l,(R.St.mk S.frz (S.new++T.new) S.lk).get l=T.get l:=λl=>by unfold St.get;rw[c];simp![length_append];by_cases b:l<S.frz.length;rw[if_pos b,if_pos (by omega),getElem?_append_left b];by_cases f:l<S.frz.length+S.new.length;rw[if_neg b,if_pos f,getElem?_append_left (by omega),getElem?_append_right (by omega)];rw[if_neg b,if_neg f,getElem?_append_right (by omega)];congr 1;omega
 refine⟨?_,a.nd,λl o e=>a.obj l o (by rw[<-g];exact e),a.tab⟩;rw[a.len];unfold St.len;rw[c];simp![length_append];omega
def zdf(g:RH K ι H S)(x:Ext ι H ι' H')(r:RV K ι' H' d v)(f:RH K ι' H' T)(hf:T.frz=S.frz++S.new)(w:W (zbm S d T) Q):Lf K ι H Q v H':=by
 have k:=g.cut x f hf;unfold zbm at w;split at w;rename_i c;rw[<-g.len]at c;exact⟨d,ι,S,x.cut,r.restrict x.pre c,k,w⟩;rename_i c;split at w;rename_i l;let⟨a,h,rfl⟩:=id r;have m:ι.length<=l:=by simp![R.flat]at c;rw[g.len];lia
 have t:=zow x.pre f.nd h m;split at w;rename_i u e;let⟨b,i,n⟩:=f.obj l _ e;rw[h]at i;cases i;split at w;rename_i j;rw[<-g.len]at j;let⟨o,p,q⟩:=n;refine⟨.ref S.len,ι++[a],S.push (.lst u),zkH x f.nd h m,⟨a,by rw[<-g.len];simp,rfl⟩,k.one (l:=l) t ⟨o,p,(q.restrict x.pre j).up (ύ _ _) (Kp.refl _)⟩,w⟩;exact⟨_,ι',_,x,r,f.keep hf,w⟩;rename_i s e;let⟨b,i,n⟩:=f.obj l _ e;rw[h]at i;cases i;split at w;rename_i j;rw[<-g.len]at j;let⟨y,o,p,q⟩:=n;refine⟨.ref S.len,ι++[a],S.push (.dic s),zkH x f.nd h m,⟨a,by rw[<-g.len];simp,rfl⟩,k.one (l:=l) t ⟨y,o,p,(q.restrict x.pre j).up (ύ _ _) (Kp.refl _)⟩,w⟩;exact⟨_,ι',_,x,r,f.keep hf,w⟩;exact⟨_,ι',_,x,r,f.keep hf,w⟩;exact⟨_,ι',_,x,r,f.keep hf,w⟩
end
section
variable{T:Tab}{cf:CF}{k:Nat}{N:List Str}{sc:Scope}{X:Cx}{pos p:Pos}
def RVs.nons{K}:∀j:Nat,RVs K ι H (List.replicate j .non) (List.replicate j .non)
 |0=>rfl|j+1=>⟨.non,List.replicate j .non,rfl,rfl,RVs.nons j⟩
def RH.enter{K}(h:RH K ι H S):RH K ι H S.enter:=⟨by rw[enter_len];exact h.len,h.nd,λl o e=>h.obj l o (by rw[za6]at e;exact e),h.tab⟩
def zkX(b:CFok cf)(h:tE X.K cf (.call f j c) l H m):
  zeH (spF X.K cf f) (List.replicate j .non) E0 (tAs X.K cf c) l H m:=by
 let⟨G,I,S,Q,n,o,w,q⟩:=h;change W (Out.bind _ _) _ at w;simp![zab] at w;refine tAs.run n o w λs J g L t u y a z i=>?_;unfold app at i;rw[zab]at i;refine⟨g,t.enter,s++List.replicate j .non,z.append (RVs.nons j),a.enter,?_⟩;let⟨d,M,e,A⟩:=zfj i;rw[e];exact λv B C x r E=>q v B (Lf.up u (zdf a x r E ((b _ _ _).1 _ _ e).frz A))
def zgi{K}(g:RH K b c S1)(x:Ext ι H b c)(d:c a=Ψ):H a=Ψ:=by
 cases e:H a with
 |none=>rfl| some o=>
  by_cases f:a∈ι;have h:a∈b:=by let⟨t,rfl⟩:=x.pre;exact mem_append_left _ f
  exact absurd h (g.fresh d)
  . have:=(x.rest a o f e).1;rw[d]at this;rcases this with z|⟨_,_,z⟩<;>exact nS z
def zn9(G:Gd T cf k N sc X)(hf:T.fns[f]?=Φ (x,c,nd))(d:j<=nd)(g:isGl sc x=Γ)(hd:(x==("__debug__":Str))=Δ)(i:PA X (e::es) (tAs X.K cf b))(a:(e::es).all zai=Γ):
  PE X (.Call (.Name x p) (e::es) [] pos) (tE X.K cf (.call f j b)):=by
 have l:=G.tab.fns f x c nd hf j d;rw[Ϥ,Ε]at a;exact PE.imp (zrs l G.room i (G.gl g) hd (zah a.1 es X.env) (zaA a.2)) λm H n h=>zkX G.tab.frm h
def zls(G:Gd T cf k N sc X)(hf:T.fns[f]?=Φ (x,b,nd))(c:j<=nd)(g:isGl sc x=Γ)(hd:(x==("__debug__":Str))=Δ):
  PE X (.Call (.Name x p) [] [] pos) (tE X.K cf (.call f j .nil)):=by
 have h:=G.tab.fns f x b nd hf j c;refine PE.imp (zrr h G.room (G.gl g) hd) λs H t z=>?_;let⟨u,i,S,Q,y,a,w,q⟩:=z;change W (Out.bind _ _) _ at w;simp![evEs,zaj] at w;unfold app at w;rw[zab]at w;let⟨d,A,e,l⟩:=zfj w;refine⟨i,S.enter,[]++List.replicate j .non,RVs.append rfl (RVs.nons j),a.enter,?_⟩;rw[e];exact λv m n x r o=>q v m (zdf a x r o ((G.tab.frm _ _ _).1 _ _ e).frz l)
def ziG(h:tE X.K cf (.callW f j a) l H m):
  zeH (spF X.K cf f) (List.replicate j .non) E0 (tAs X.K cf a) l H m:=by
 let⟨G,I,S,Q,n,o,w,q⟩:=h;change W (Out.bind _ _) _ at w;simp![zab] at w;refine tAs.run n o w λs J b L t u y c z i=>?_;unfold appW at i;refine⟨b,t,s++List.replicate j .non,z.append (RVs.nons j),c,?_⟩;let⟨d,A,e,B⟩:=zfj i;rw[e];exact λv C g x r E=>q v C (Lf.up u ⟨d,g,A,x,r,E,B⟩)
def zlq(G:Gd T cf k N sc X)(hf:T.fns[f]?=Φ (x,c,nd))(d:j<=nd)(g:isGl sc x=Γ)(hd:(x==("__debug__":Str))=Δ)(i:PA X (e::es) (tAs X.K cf b))(a:(e::es).all zai=Γ):
  PE X (.Call (.Name x p) (e::es) [] pos) (tE X.K cf (.callW f j b)):=by
 have l:=G.tab.fns f x c nd hf j d;rw[Ϥ,Ε]at a;exact PE.imp (zrs l G.room i (G.gl g) hd (zah a.1 es X.env) (zaA a.2)) λm H n h=>ziG h
end
abbrev rB(K:PySem.W.Frag)(f:R.St->List D->Out D):List V->Hp->VK->Prop:=λe H g=>∃a S b c,RVs K a H b e/\RH K a H S/\W (f S b) c/\∀v d,Lf K a H c v d->g v d
section
variable{T:Tab}{cf:CF}{k:Nat}{N:List Str}{sc:Scope}{X:Cx}{pos p:Pos}
def RVs.one{K}(r:RVs K ι H [d] xs):∃v,xs=[v]/\RV K ι H d v:=by let⟨v,w,rfl,a,b⟩:=r;cases(show w=[] from b);exact⟨v,rfl,a⟩
def zrW:zbi X (.builtin "len") (rB X.K λS ds=>R.bi S .len ds):=by
 intro c s m H g n t I u z;let⟨L,S,ds,M,r,i,w,q⟩:=z;dsimp only at w;unfold bi at w;split at w
 case h_1 x=>
  let⟨v,rfl,y⟩:=r.one;split at w;let⟨a,g,rfl,f,j⟩:=y;refine zbQ c s m H _ n t I u ⟨a,g,rfl,.inr (SqT.of f),?_⟩;rw[j.length];exact q _ _ (Lf.of (d:=.int _) i rfl w);let⟨a,g,rfl,f,j⟩:=y;refine zbQ c s m H _ n t I u ⟨a,g,rfl,.inl f.sq,?_⟩;rw[j.length];exact q _ _ (Lf.of (d:=.int _) i rfl w);rename_i l;let⟨a,C,rfl⟩:=y;cases e:S.get l with|none=>rw[e]at w;exact w.elim| some o=>rw[e]at w;let⟨b,A,B⟩:=i.obj _ _ e;rw[C]at A;cases A;cases o with| lst ds=>let⟨g,f,j⟩:=B;refine zbQ c s m H _ n t I u ⟨a,g,rfl,.inl (SqL.of f),?_⟩;rw[j.length];exact q _ _ (Lf.of (d:=.int _) i rfl w)| dic E=>let⟨_,G,f,J⟩:=B;refine zkW c s m H _ n t I u ⟨a,G,rfl,f,?_⟩;rw[J.length];exact q _ _ (Lf.of (d:=.int _) i rfl w)|ins _ _=>exact w.elim|exc _ _=>exact w.elim
  exact w.elim
 all_goals first|exact w.elim|(rename_i h;cases h)
def zsN:zbi X (.builtin "abs") (rB X.K λS ds=>R.bi S .abs ds):=by
 intro a s b H l c e I f z;let⟨m,S,ds,n,r,g,w,q⟩:=z;dsimp only at w;unfold bi at w;split at w
 case h_2 i _=>let⟨v,rfl,j⟩:=r.one;obtain rfl:v=.int i:=j;exact zmB a s b H _ c e I f ⟨i,rfl,q _ _ (Lf.of (d:=.int _) g rfl w)⟩
 all_goals first|exact w.elim|(rename_i h;cases h)
def zaX(G:Gd T cf k N sc X)(h:bltB T sc x=Γ):Gl X x/\X.mg x=Ψ:=by replace h:=qa1 h;exact⟨G.gl h.1,G.tab.blt x h.2⟩
def ztm{id}(i:zbi X (.builtin id) (rB X.K λS ds=>R.bi S b ds))(h:Gl X x/\X.mg x=Ψ)(j:bootBuiltins x=Φ (.builtin id))(m:PA X (e::es) (tAs X.K cf c))(a:(e::es).all zai=Γ)(n:x≠"__name__")(d:(x==("__debug__":Str))=Δ):
  PE X (.Call (.Name x p) (e::es) [] pos) (tE X.K cf (.bi b c)):=by
 rw[Ϥ,Ε]at a;refine PE.imp (zbl i h.1 h.2 j m n d (zah a.1 es X.env) (zaA a.2)) λC H E z=>?_;let⟨G,I,S,Q,o,r,w,q⟩:=z;change W (Out.bind _ _) _ at w;simp![zab] at w;exact tAs.run o r w λds J f L s t u g y A=>⟨f,s,ds,Q,y,g,A,λv B l=>q v B (Lf.up t l)⟩
def znB(j:RH X.K ι H S)(r:RV X.K ι H d v)(h:tyOf S d=Φ a):zcX H v=Φ a:=by
 cases d with
 |non=>obtain rfl:v=.non:=r;exact h|bl b=>obtain rfl:v=.bl b:=r;exact h|int b=>obtain rfl:v=.int b:=r;exact h|str b=>obtain rfl:v=.str b:=r;exact h| tup f=>let⟨p,m,rfl,c,_⟩:=r;simp![zcX,c];exact h| ref l=>
  let⟨p,n,rfl⟩:=r;simp![tyOf]at h;simp![zcX];cases e:S.get l with
  |none=>rw[e]at h;exact nS h
  |some o=>
   rw[e]at h;let⟨b,g,i⟩:=j.obj _ _ e;rw[n]at g;cases g;cases o with
   |lst f=>let⟨m,c,_⟩:=i;rw[c];exact h|dic q=>let⟨_,s,c,_⟩:=i;rw[c];exact h|ins _ _=>exact nS h
   |exc _ _=>exact nS h
 |fix f=>exact nS h
def zn0(G:Gd T cf k N sc X)(i:Gl X "isinstance"/\X.mg "isinstance"=Ψ)(j:Gl X y/\X.mg y=Ψ)(l:bootBuiltins y=Φ (.type t))(m:t∈["bool","int","str","list","tuple","dict"])(g:y≠"__name__")(h:(y==("__debug__":Str))=Δ)(n:PE X e (tE X.K cf o))(b:zai e=Γ):PE X (.Call (.Name "isinstance" p) [e,.Name y E] [] pos) (tE X.K cf (.bi (.isin t) (.cons o .nil))):=by
 refine PE.imp (zbl zgU i.1 i.2 zbB (zaT n (zaT (zjO (v:=.ty t) j.1 j.2 l rfl g h) zcs) (zah b _ X.env)) (by decide) (by decide) (zah b _ X.env)) λI H J z=>?_;let⟨L,M,S,Q,r,s,w,q⟩:=z;change W (Out.bind _ _) _ at w;simp![evEs,zab,W_ok] at w;refine tE.run r s w λd v u O x A B c C f=>?_;simp![bi]at f;cases e:tyOf x d with|none=>rw[e]at f;exact f.elim| some a=>rw[e]at f;exact⟨v,t,a,rfl,znB c C e,m,q _ _ (Lf.up A (Lf.of (d:=.bl _) c rfl f))⟩
def zna(c:RH X.K ι H S)(r:RV X.K ι H d v)(h:isL S d=Γ):tyV X.K "list" v H:=by
 cases d with
 |ref l=>
  let⟨p,f,rfl⟩:=r;simp![isL]at h;cases e:S.get l with
  |none=>rw[e]at h;exact nB h
  |some o=>rw[e]at h;let⟨b,a,g⟩:=c.obj _ _ e;rw[f]at a;cases a;cases o with|lst m=>let⟨i,j,_⟩:=g;exact .inl ⟨rfl,i,SqL.of j⟩|_=>exact nB h
 |_=>exact nB h
abbrev rM(K:PySem.W.Frag)(m:Mt):V->List V->Hp->VK->Prop:=λx f H g=>∃a S d b c,RV K a H d x/\RVs K a H b f/\RH K a H S/\W (R.mt S m d b) c/\∀v e,Lf K a H c v e->g v e
def zk5:MtR X "list.append" (rM X.K .append):=by
 intro f s n H x Y v t A I B C z;let⟨ι,S,d,E,Qd,r,G,g,w,q⟩:=z;unfold R.mt at w;split at w
 case h_1 l y _=>let⟨a,i,rfl⟩:=r;let⟨u,rfl,J⟩:=G.one;cases e:S.get l with|none=>rw[e]at w;exact w.elim| some o=>rw[e]at w;let⟨b,j,L⟩:=g.obj _ _ e;rw[i]at j;cases j;cases o with| lst E=>let⟨M,O,m⟩:=L;let⟨c,S',Q,U⟩:=zpT w;refine zfF f s n H _ _ v t A I B C ⟨a,M,u,rfl,rfl,O,?_,?_⟩;rw[m.length];rw[length_append,List.length_singleton]at c;lia;exact q _ _ (Lf.wr (d:=.non) g e i Q (m.append ⟨u,[],rfl,J,rfl⟩) rfl U)|_=>exact w.elim
 all_goals first|exact w.elim|(cases h)
def ztj{id}(b:Slot "list" name id)(n:typeOf (.builtin id)=pure (.type "method_descriptor"))(y:MtR X id (rM X.K m))(A:PE X o (tE X.K cf B))(C:PE X e (tE X.K cf E))(a:zai e=Γ)(f:zaN o=Γ)(G:(g.endLine==h.line)=Γ):
  PE X (.Call (.Attribute o name g) [e] [] h) (tE X.K cf (.mt m B (.cons E .nil))):=by
 refine PE.imp (zru PySem.F.plainAttrs_list b n y A (zji C zmV a) (zbE f name X.env _) (by rw[zah a];rfl) G (zah a [] X.env)) λσ H Qv k=>?_;let⟨δ,ι,S,Q,I,J,w,q⟩:=k;change W (Out.bind _ _) _ at w;simp![zab] at w;refine tE.run I J w λd v L H1 S1 M r i u j=>?_;split at j;rename_i c;refine⟨zna i u c,?_⟩;rw[zab]at j;exact tAs.run r i j λO vs s H2 U x Y t r2 w2=>⟨s,U,d,O,Q,u.ext x,r2,t,w2,λz H3 l=>q z H3 (Lf.up (M.trans x) l)⟩;exact j.elim
def SqK.seq{K}(h:SqK K ι H S a xs ds b):SqL K H a xs\/SqT K H a xs:=by cases h with|tmp h e=>exact .inl (SqL.of e)|tup e=>exact .inr (SqT.of e)|fix e=>exact .inl e.sq|own l c d f e=>exact .inl (SqL.of e)
def zqA(r:PE X e (tE X.K cf s)):PE X e (tL X.K cf (.val s)):=by
 refine PE.imp r λJ H L z=>?_;let⟨M,O,S,Q,t,u,w,q⟩:=z;change W (Out.bind _ _) _ at w;simp![zab] at w;refine tE.run t u w λd v i x m y A c j B=>?_;let⟨C,b,E⟩:=zau B;refine q v x ⟨C,lkOf m d,i,m,y,?_,c,E⟩;cases d with
 |tup G=>cases b;let⟨a,f,rfl,g,h⟩:=j;exact⟨a,f,rfl,h,.tup g⟩| fix G=>cases b;let⟨a,f,rfl,g,h⟩:=j;exact⟨a,f,rfl,h,.fix g⟩| ref l=>simp![zbe]at b;split at b;rename_i I e;cases b;let⟨a,n,rfl⟩:=j;let⟨U,o,f,g,h⟩:=c.obj _ _ e;rw[n]at o;cases o;exact⟨a,f,rfl,h,.own l (by simp[lkOf]) n e g⟩;exact nS b
 |_=>exact nS b
def zaP(b:PE X e c)(a:zai e=Γ):PA X [e] (zgm c tNil):=zaT b zcs (zah a [] X.env)
def zqH(G:Gd T cf k N sc X)(n:Gl X "tuple"/\X.mg "tuple"=Ψ)(x:PE X e (tL X.K cf cl))(f:zai e=Γ):PE X (.Call (.Name "tuple" p) [e] [] pos) (tE X.K cf (.mkT cl)):=by
 refine PE.imp (zbg zfc n.1 n.2 zfh (zaP x f) (by decide) (by decide) (zah f [] X.env)) λL H o z=>?_;let⟨M,O,S,Q,r,y,w,q⟩:=z;change W (Out.bind _ _) _ at w;simp![zab] at w;refine tL.run r y w λA B v C b U s E g I i=>?_;split at i;let⟨a,j,rfl,t,J⟩:=I;have fresh:SqL X.K b a j->∃p m,[V.ref a]=[V.ref p]/\((SqL X.K b p m/\∀l,b l=Ψ->o (.ref l) (upd b l (.tup m)))\/(SqT X.K b p m/\o (.ref p) b)):=λh=>⟨a,j,rfl,.inl ⟨h,λl u=>q _ _ (Lf.up s (Lf.tup g u t i))⟩⟩;cases J with|tmp h e=>exact fresh (SqL.of e)|fix e=>exact fresh e.sq|own l u Y r e=>exact fresh (SqL.of e)|tup e=>exact⟨a,j,rfl,.inr ⟨SqT.of e,q _ _ (Lf.up s (Lf.of (d:=.tup A) g ⟨a,j,rfl,e,t⟩ i))⟩⟩
 exact i.elim
def zqI(G:Gd T cf k N sc X)(f:Gl X "list"/\X.mg "list"=Ψ)(g:PE X e (tL X.K cf cl))(b:zai e=Γ):PE X (.Call (.Name "list" p) [e] [] pos) (tE X.K cf (.mkL cl)):=by refine PE.imp (zbg zf8 f.1 f.2 zgY (zaP g b) (by decide) (by decide) (zah b [] X.env)) λB H C z=>?_;let⟨E,I,S,Q,h,i,w,q⟩:=z;change W (Out.bind _ _) _ at w;simp![zab] at w;refine tL.run h i w λJ j v m L M n o d r s=>?_;let⟨c,t⟩:=zdH s;let⟨a,u,rfl,x,y⟩:=r;exact⟨a,u,rfl,y.seq,λl A=>q _ _ (Lf.up n (Lf.lst d A x t))⟩
def zjW(h:tE X.K cf (.mkL cl) m H n):tLt X.K cf cl m H n:=by let⟨E,G,S,Q,r,s,w,q⟩:=h;change W (Out.bind _ _) _ at w;simp![zab] at w;refine tLt.run r s w λt p u g I i d v a x y e A B=>?_;let⟨c,C⟩:=zdH B;refine q _ _ ⟨.ref i.len,g++[p],i.push (.lst t),?_,⟨p,a.last p,rfl⟩,a.one (l:=0) y ⟨u,e,x.up (ύ _ _) (Kp.refl _)⟩,C⟩;refine⟨d.pre.trans (ύ _ _),d.kp,λb o j f=>⟨(d.rest b o j f).1,λz=>?_⟩⟩;rcases mem_append.mp z with z|z;exact(d.rest b o j f).2 z;simp at z;subst z;rw[A]at f;exact nS f
def zh4:bootBuiltins "range"=Φ (.type "range"):=by decide +kernel
def zfx:zbi X (.type "range") (λxs H Q=>∃j,xs=[.int j]/\∀p,H p=Ψ->Q (.ref p) (upd H p (.rng 0 j))):=by intro a s d H xs f Q I r h;let⟨j,rfl,q⟩:=h;let⟨u,rfl,c⟩:=r.one;let⟨t,rfl⟩:=c;refine call_range_1 ⟨.ref s.heap.objs.size,_,I.laid (λb g e=>Λ _ e) (le_refl _) ?_,rfl,q _ (I.hok.fresh (le_refl _))⟩;exact⟨_,_,_,Ι _ rfl⟩
def zl8(C:X.calm=Γ):zbi X (.type "list") (λxs H Q=>∃p b,xs=[.ref p]/\H p=Φ (.rng 0 b)/\-(2^62)<=b/\b<2^62/\b.toNat<=16777216/\∀l,H l=Ψ->Q (.ref l) (upd H l (.lst ((List.range b.toNat).map λ(j:Nat)=>.int j)))):=by
 intro x s σ H xs a Q I r h;let⟨p,b,rfl,E,G,J,y,q⟩:=h;let⟨u,rfl,L⟩:=r.one;cases(show u=Ξ.ref p from L);let⟨t,t2,t3,e⟩:=(show ObjOk X.prog X.w H s.heap p (.rng 0 b) from I.hok p _ E);have M:Builtin.Range.rangeSize 0 b 1=(b.toNat:Nat):=by rw[rangeSize_one];split<;>lia
 refine call_list_range (I.ok.hd C) e (small_one (by decide) (by decide) G J) M y λh' tk i c O U A=>?_;refine⟨.ref s.heap.objs.size,_,I.laid (o:=.lst _) O (le_refl _) ⟨?_,i.toList,c,?_,?_⟩,rfl,q _ (I.hok.fresh (le_refl _))⟩;rw[length_map,List.length_range];exact y;have m:∀(n:Nat)(a:List Ξ),a.length=n->(∀(j:Nat)(v:Ξ),a[j]?=Φ v->∃t,v=Ξ.int (0+(j:Int)*1) t)->Vals ((List.range n).map λ(j:Nat)=>V.int j) a:=by
  intro n;induction n with
  |zero=>intro a g _;cases a with
   |nil=>exact .nil|cons _ _=>simp at g
  |succ n Y=>
   intro a g B;have d:a≠[]:=by intro z;subst z;simp at g
   have w:=(List.dropLast_concat_getLast d).symm;rw[List.range_succ,map_append,w];have f:a.dropLast.length=n:=by simp[g]
   refine Vals.append (Y _ f λj v e=>B j v ?_) (.cons ?_ .nil);have hj:=(Α.mp e).1;rw[w,getElem?_append_left hj];exact e;let⟨t,e⟩:=B n (a.getLast d) (by
    conv=>lhs;rw[w]
    simp[f])
   exact⟨t,by simpa using e⟩
 exact m _ _ (by simpa using A.1) λj v e=>A.2 j v (by simpa using e);simpa using U
def znX(G:Gd T cf k N sc X)(o:Gl X "list"/\X.mg "list"=Ψ)(r:Gl X "range"/\X.mg "range"=Ψ)(t:PE X a (tE X.K cf u))(b:zai a=Γ):
  PE X (.Call (.Name "list" p) [.Call (.Name "range" x) [a] [] pos'] [] pos) (tE X.K cf (.mkL (.rng1 u))):=by
 have g:=zbg (p:=x) (pos:=pos') zfx r.1 r.2 zh4 (zaP t b) (by decide) (by decide) (zah b [] X.env);refine PE.imp (zbg (zl8 G.calm) o.1 o.2 zgY (zaP g rfl) (by decide) (by decide) rfl) λO H U z=>?_;let⟨Y,ι,S,Q,y,A,w,q⟩:=z;change W (Out.bind (Out.bind _ _) _) _ at w;simp![zab]at w;refine tE.run y A w λd v h B S1 C E i I e=>?_;cases d with| int j=>obtain rfl:v=.int j:=I;dsimp only at e;split at e;rename_i c;let⟨J,L⟩:=zdH e;refine⟨j,rfl,λs f=>⟨s,j,rfl,zag,c.1,c.2,by simpa[Χ]using J,λl M=>?_⟩⟩;have n:=i.new f (.rng 0 j);refine q _ _ (Lf.up (C.trans (Ext.new f _)) (Lf.lst n M ?_ L));have:=RVs.ints (K:=X.K) (ι:=h) (H:=upd B s (.rng 0 j)) ((List.range j.toNat).map λ(m:Nat)=>(m:Int));rw[ϒ,ϒ]at this;exact this;exact e.elim|_=>exact e.elim
def zpA{bs:List Bool}(h:ds.mapM zdW=Φ bs):ds=bs.map D.bl:=by
 induction ds generalizing bs with
 |nil=>
  have h:bs=[]:=by simpa using h.symm
  subst h;rfl
 |cons d ds b=>let⟨y,r,a,c,rfl⟩:=za1 h;cases d<;>simp[zdW]at a;subst a;rw[b c];rfl
def RVs.bls_eq{K}:∀{bs:List Bool}{vs:List V},RVs K ι H (bs.map D.bl) vs->vs=bs.map V.bl
 | [],_,h=>h| b::bs,vs,h=>by let⟨v,r,rfl,a,c⟩:=h;rw[RVs.bls_eq c,show v=.bl b from a];rfl
def ziW{bs:List Bool}(r:Vals (bs.map V.bl) us):us=bs.map Ξ.bool:=by induction bs generalizing us with|nil=>cases r;rfl| cons b bs a=>cases r with|cons c d=>rw[a d,show _=Ξ.bool b from c];rfl
def zk7(bs:List Bool):(List.range bs.length).all (λi=>bs.getD i Δ)=bs.all id:=by
 rw[Bool.eq_iff_iff,all_eq_true,all_eq_true];constructor;intro h b c;let⟨i,a,e⟩:=List.getElem_of_mem c;have:=h i (by simpa using a);rw[List.getD_eq_getElem?_getD,Η a,e]at this;exact this;intro h i a;have a:i<bs.length:=by simpa using a
 rw[List.getD_eq_getElem?_getD,Η a];exact h _ (List.getElem_mem a)
def zpH(L:X.calm=Γ):zbi X (.builtin "all") (λxs H Q=>∃(a:Addr) (bs:List Bool),xs=[.ref a]/\(SqL X.K H a (bs.map V.bl)\/SqT X.K H a (bs.map V.bl))/\Q (.bl (bs.all id)) H):=by
 intro m s M H xs us Q I r h;let⟨a,bs,rfl,A,q⟩:=h;let⟨u,rfl,U⟩:=r.one;cases(show u=Ξ.ref a from U);have B:X.A.in1.handled=Ψ:=I.ok.hd L;have O:∀(d:Array Ξ),d.toList=bs.map Ξ.bool->TruthOf X.prog X.w X.A.in1 (λi v=>d[i]?=Φ v) (λi=>bs.getD i Δ):=by
  intro d e i v s' Q' E' Y J;have f:d.toList[i]?=Φ v:=by rw[Array.getElem?_toList];exact Y
  rw[e,getElem?_map]at f;cases z:bs[i]? with
  |none=>rw[z]at f;exact nS f
  |some b=>rw[z]at f;simp![Option.map_some,Option.some.injEq]at f;subst f;dsimp only at J;rw[List.getD_eq_getElem?_getD,z]at J;exact Ϙ J
 have fin:∀(t:Heap)(y n:Nat)(C:Ζ)(it:Addr),n=bs.length->s.heap.objs.size=it->Inv X m M H C->C.os=s.os->(∀b o,b∉[it]->C.heap.get? b=Φ o->t.get? b=Φ o)->
   EP X m M Q (.bool ((List.range n).all λi=>bs.getD i Δ)) {C with heap:=t,toks:=y}:=by
  intro t y n C it hn hit I2 ho E;subst hn;rw[zk7];have fp:=I.fpOk (b:=it) (by lia) (I.hok.fresh (by lia));let⟨f0,f1,f2,f3,f4,f5⟩:=fp;exact⟨.bl _,H,I2.turned (λb o hb e=>E b o (by simpa using hb) e) f0 f1 f3 f4 f5,rfl,q⟩
 rcases A with A|A;let⟨g,G,w,hz⟩:=I.list A;have j:=ziW G;have l:=G.length;refine call_all_walk (wpAny_pyIter_list w.isList ?_);have x:a≠s.heap.objs.size:=by let⟨o,n,e,_⟩:=w;exact ne_of_lt (Β e)
 refine⟨s.heap.objs.size,_,_,_,_,_,_,rfl,Walks.list B _ a x g.toArray,⟨⟨_,Ι _ rfl,rfl,rfl⟩,w.isList.push _⟩,O g.toArray (by simpa using j),λt y E=>?_⟩;exact fin t y _ _ _ (by simpa using l.symm) rfl (I.kept λb o e=>Λ _ e) rfl E;let⟨g,G,w,hz⟩:=I.tuple A;have j:=ziW G;have l:=G.length;refine call_all_walk (wpAny_pyIter_tuple (show s.heap.IsTuple a g.toArray from w) ?_);have x:a≠s.heap.objs.size:=by let⟨o,e,_⟩:=w;exact ne_of_lt (Β e)
 refine⟨s.heap.objs.size,_,_,_,_,_,_,rfl,Walks.tuple B _ a x g.toArray,⟨⟨_,Ι _ rfl,rfl,rfl⟩,?_⟩,O g.toArray (by simpa using j),λt y E=>?_⟩;let⟨o,e,c⟩:=w;exact⟨o,Λ _ e,c⟩;exact fin t y _ _ _ (by simpa using l.symm) rfl (I.kept λb o e=>Λ _ e) rfl E
def zqR(G:Gd T cf k N sc X)(h:Gl X "all"/\X.mg "all"=Ψ)(l:PE X e (tL X.K cf cl))(f:zai e=Γ):PE X (.Call (.Name "all" p) [e] [] pos) (tE X.K cf (.all cl)):=by
 refine PE.imp (zbl (zpH G.calm) h.1 h.2 zsF (zaP l f) (by decide) (by decide) (zah f [] X.env)) λC H E z=>?_;let⟨I,J,S,Q,m,n,w,q⟩:=z;change W (Out.bind _ _) _ at w;simp![zab] at w;refine tL.run m n w λo r v s L M t u g x y=>?_;let⟨b,c,A⟩:=zau y;unfold allD at c;cases e:o.mapM zdW with
 |none=>rw[e]at c;exact nS c
 |some i=>
  rw[e]at c;have c:b=i.all id:=by simpa using c.symm
  subst c;let⟨a,O,rfl,j,B⟩:=x;rw[zpA e]at j;have:=j.bls_eq;subst this;exact⟨a,i,rfl,B.seq,q _ _ (Lf.up t (Lf.of (d:=.bl _) g rfl A))⟩
end
section
variable{T:Tab}{cf:CF}{k:Nat}{N:List Str}{sc:Scope}{X:Cx}{pos p p2 pos':Pos}
def zf1(ns):R.dedup ns=firstMet (λi=>ns.getD i 0) ns.length:=by
 unfold R.dedup firstMet;have e:(List.range ns.length).map (λi=>ns.getD i 0)=ns:=by apply List.ext_getElem?;intro i;by_cases h:i<ns.length;simp[h];simp[h]
 rw[e];congr 1;funext a x;unfold step_dedup;simp[List.contains_eq_any_beq]
def zkO(ns):(R.dedup ns).length<=ns.length:=by rw[zf1];exact firstMet_length_le _ _
end
end R
namespace R
open PySem
@[reducible]def Rise(xs:Array Nat):Prop:=xs.toList.Pairwise (· < ·)
def zeL(h:Rise xs)(a:i<j)(b:j<xs.size):xs[i]'(by lia)<xs[j]:=by have:=List.pairwise_iff_getElem.mp h i j (by simpa using(by lia:i<xs.size)) (by simpa using b) a;simpa using this
def zfg(xs)(j)(h:Rise xs):∀(f lo a:Nat),a-lo<=f->lo<=a->a<=xs.size->(∀i (b:i<xs.size),i<lo->xs[i]<j)->(∀i (b:i<xs.size),a<=i->j<=xs[i])->
  SetTable.below.go xs j f lo a<=xs.size/\(∀i (b:i<xs.size),i<SetTable.below.go xs j f lo a->xs[i]<j)/\∀i (b:i<xs.size),SetTable.below.go xs j f lo a<=i->j<=xs[i]
 |0,lo,a,o,p,d,g,k=>by
  have:lo=a:=by lia
  subst this;exact⟨d,g,k⟩
 |f+1,lo,a,o,p,d,g,k=>by
  unfold SetTable.below.go;by_cases c:lo<a;rw[if_pos c];have n:(lo+a)/2<xs.size:=by lia
  have e:xs.getD ((lo+a)/2) j=xs[(lo+a)/2]:=by simp[n]
  dsimp only;rw[e];by_cases l:xs[(lo+a)/2]<j;rw[if_pos l];refine zfg xs j h f _ _ (by lia) (by lia) d (λi b m=>?_) k;by_cases q:i=(lo+a)/2;subst q;exact l;exact lt_trans (zeL h (show i<(lo+a)/2 by lia) n) l;rw[if_neg l];refine zfg xs j h f _ _ (by lia) (by lia) (by lia) g λi b m=>?_;by_cases q:i=(lo+a)/2;lia;have:=zeL h (show(lo+a)/2<i by lia) b;lia;rw[if_neg c];have:lo=a:=by lia
  subst this;exact⟨d,g,k⟩
def zff(h:Rise xs)(j):SetTable.below xs j<=xs.size/\(∀i (a:i<xs.size),i<SetTable.below xs j->xs[i]<j)/\∀i (a:i<xs.size),SetTable.below xs j<=i->j<=xs[i]:=zfg xs j h xs.size 0 xs.size (by lia) (zero_le _) (le_refl _) (λi _ q=>by lia) (λi a q=>by lia)
def ziK(h:Rise xs)(b:i<xs.size):SetTable.below xs (xs[i]+1)=i+1:=by
 let⟨f,d,e⟩:=zff h (xs[i]+1);have g:¬SetTable.below xs (xs[i]+1)<=i:=λc=>by have:=e i b c;lia
 by_cases c:i+1<SetTable.below xs (xs[i]+1);have a:i+1<xs.size:=by lia
 have j:=d (i+1) a c;have k:=zeL h (show i<i+1 by lia) a;lia;lia
def ziJ(h:Rise xs):SetTable.below xs 0=0:=by let⟨b,a,c⟩:=zff h 0;cases e:SetTable.below xs 0 with|zero=>rfl|succ n=>exact absurd (a 0 (by lia) (by lia)) (Nat.not_lt_zero _)
def zgN(xs)(p)(x:a):(SetTable.insertAt xs p x).toList=xs.toList.take p++x::xs.toList.drop p:=by unfold SetTable.insertAt;simp[List.take_of_length_le]
def zgq(h:Rise xs)(l:xs[SetTable.below xs j]?≠Φ j):Rise (SetTable.insertAt xs (SetTable.below xs j) j):=by
 let⟨b1,b2,b3⟩:=zff h j;generalize SetTable.below xs j=p at *;unfold Rise;rw[zgN,List.pairwise_append];refine⟨h.sublist (List.take_sublist _ _),?_,?_⟩;rw[pairwise_cons];refine⟨λy n=>?_,h.sublist (List.drop_sublist _ _)⟩;let⟨i,c,e⟩:=List.mem_iff_getElem.mp n;have d:p+i<xs.size:=by simp at c;lia
 have e:xs[p+i]=y:=by simpa using e
 have q:=b3 (p+i) d (by lia);have t:xs[p+i]≠j:=λz=>by
  cases i with
  |zero=>exact l (by rw[Array.getElem?_eq_getElem (by lia)];exact congrArg Φ z)| succ i=>
   have o:p<xs.size:=by lia
   have:=zeL h (show p<p+(i+1) by lia) d;have:=b3 p o (le_refl _);lia
 lia;intro a r b f;let⟨i,c,e⟩:=List.mem_iff_getElem.mp r;have d:i<xs.size:=by simp at c;lia
 have g:i<p:=by simp at c;lia
 have e:xs[i]=a:=by simpa using e
 have q:=b2 i d g;rcases mem_cons.mp f with rfl|f;lia;let⟨m,s,e2⟩:=List.mem_iff_getElem.mp f;have k:p+m<xs.size:=by simp at s;lia
 have e2:xs[p+m]=b:=by simpa using e2
 have:=b3 (p+m) k (by lia);lia
def zgP(t)(g)(h):∀(f:Nat)(p:SetTable.Probe)(j:Nat)(d:Option Nat),(∀x,p.dummy=Φ x->t.slot x=.dummy)->SetTable.probe.go t g h f p=Φ (.empty j d)->t.slot j=.empty/\∀x,d=Φ x->t.slot x=.dummy
 |0,p,j,d,k,e=>nS e| f+1,p,j,d,k,e=>by
  unfold SetTable.probe.go at e;have a:∀q:SetTable.Probe,(t.advance q).dummy=q.dummy:=λq=>by unfold SetTable.advance;split<;>rfl
  cases b:t.slot p.j with|empty=>rw[b]at e;cases e;exact⟨b,k⟩| dummy=>rw[b]at e;refine zgP t g h f _ j d (λx c=>?_) e;rw[a]at c;cases c;exact b| live i=>rw[b]at e;dsimp only at e;split at e;cases e;exact zgP t g h f _ j d (λx c=>k x (by rw[a]at c;exact c)) e
def zpl{t:SetTable}(e:t.freeSlot h=Φ (a,b)):t.place[SetTable.below t.place a]?≠Φ a:=by
 unfold SetTable.freeSlot at e;split at e;rename_i j d g;let⟨i,k⟩:=zgP t _ h _ _ j d (λx c=>nS c) g;cases e;have f:∀x,(t.slot x=.empty\/t.slot x=.dummy)->t.place[SetTable.below t.place x]?≠Φ x:=λx c z=>by unfold SetTable.slot at c;rw[if_pos (by simpa using z)]at c;rcases c with q|q<;>cases q
 cases d with|none=>exact f j (.inl i)|some x=>exact f x (.inr (k x rfl))
 exact nS e
def zbS(n):Rise (Array.range n):=by unfold Rise;rw[Array.toList_range];exact List.pairwise_lt_range
structure TOk(b:Bool)(t:SetTable):Prop where
 led:t.led=b
 rise:Rise t.place
def zrX(h:TOk b t)(es)(x)(v):TOk b (layNew t es x v).2.1:=by unfold layNew;split;rename_i a d e;have c:TOk b (t.put a).1:=⟨h.led,zgq h.rise (zpl e)⟩;dsimp only;unfold SetTable.orStandIn;split;exact c;exact⟨c.led,zbS _⟩;exact⟨h.led,zbS _⟩
def zlw(h:TOk b t)(es)(n):TOk b (relayAll t es n).2.1:=by
 unfold relayAll;split;rename_i m o e;have d:TOk b m:=by
  unfold SetTable.relaid SetTable.laid at e;cases j:SetTable.layClean (SetTable.sizeAbove n-1) (es.map (·.1)) with
  |none=>rw[j]at e;exact nS e
  |some k=>
   rw[j]at e;cases e;refine⟨h.led,?_⟩;show Pairwise _ (List.map _ _);rw[pairwise_map,List.pairwise_filterMap];refine List.pairwise_lt_range.imp λ{x y} i a f c g=>?_;cases d:k.getD x Ψ with
   |none=>rw[d]at f;exact nS f
   |some u=>
    cases l:k.getD y Ψ with
    |none=>rw[l]at g;exact nS g
    |some p=>rw[d]at f;rw[l]at g;cases f;cases g;exact i
 dsimp only;split;exact d;exact⟨h.led,zbS _⟩;exact⟨h.led,zbS _⟩
end R
namespace R
open PySem PySem.Spec PyProof.Rows
section
variable{prog:Ο}{w:ϋ}{A:ϐ}{E:Ξ->Ζ->Prop}{s:Ζ}
noncomputable abbrev byT(w:ϋ):Bool:=w.params.followText "set-order"
abbrev SetD(prog:Ο)(w:ϋ)(h:Heap)(a:Addr)(S:Int->Bool)(n:Nat):Prop:=∃o b c t,h.get? a=Φ o/\o.ExactSet/\o.data=.set b c t/\ElemsOf (intKind prog w) b.toList/\(∀k,S k=Γ↔∃e∈b.toList,(intKind prog w).is k e.2=Γ)/\b.size<scanBound/\t.fits b.size=Γ/\b.size=n/\TOk (!byT w) t
def SetD.congr(x:SetD prog w h a S n)(e:∀k,S k=b k)(c:n=d):SetD prog w h a b d:=by let⟨o,f,g,t,i,j,l,m,p,q,r,u,v⟩:=x;exact⟨o,f,g,t,i,j,l,m,λk=>by rw[<-e k];exact p k,q,r,u.trans c,v⟩
def SetD.at(x:SetD prog w h a S n)(k:∀o,h.get? a=Φ o->h'.get? a=Φ o):SetD prog w h' a S n:=by let⟨o,b,c,t,d,r⟩:=x;exact⟨o,b,c,t,k o d,r⟩
def zi7{h:Heap}(m:h.get? a=Φ o)(c:o.ExactSet)(hd:o.data=.set es d t)(f:ElemsOf (intKind prog w) b.toList)(g:∀k,S' k=Γ↔∃e∈b.toList,(intKind prog w).is k e.2=Γ)(i:b.size<scanBound)(j:t'.fits b.size=Γ)(n:TOk (!byT w) t'):
  (h.update a (Obj.putSet b t')).get? a=Φ {o with data:=.set b (d+1) t'}/\SetD prog w (h.update a (Obj.putSet b t')) a S' b.size:=by
 let⟨l,_⟩:=SetOf_store m c hd f g i j;exact⟨l,_,b,d+1,t',l,c,rfl,f,g,i,j,rfl,n⟩
def zui(hS:SetD prog w s.heap a S n)(hr:n+1<scanBound)(q:∀h' b,Heap.SameBut a s.heap h'->SetD prog w h' a (λz=>S z||decide (z=k)) (if S k then n else n+1)->Q b {s with heap:=h'}):
  wpAny (model prog w) A (setAddHashed a (.int k p) ((intKind prog w).hash k)) Q E s:=by
 have h:(intKind prog w).is k (.int k p)=Γ:=intKind_is _ _ _ _;let⟨o,B,ep,t,H,u,I,l,f,hb,U,hn,ht⟩:=hS;refine ϓ (Θ (wpAny_setState_of H I U ?_));dsimp only;rw[byScan_of rfl hb l];refine Θ (Θ (wpAny_rule (Θ (wpAny_setScan_of h H I U l ?_))));cases hi:List.findIdx? (λe=>(intKind prog w).is k e.2) B.toList with
 |some j=>let⟨hj,Y,_⟩:=List.findIdx?_eq_some_iff_getElem.mp hi;have M:=(f k).mpr ⟨_,List.getElem_mem hj,Y⟩;have:=q s.heap Δ (Heap.SameBut.refl _ _) ⟨o,B,ep,t,H,u,I,l,λz=>?_,hb,U,by rw[M];exact hn,ht⟩;exact Ω (Ω this);rw[<-f z];by_cases c:z=k;subst c;simp[M];simp[c]| none=>
  have M:S k=Δ:=by cases c:S k with|false=>rfl| true=>let⟨e,J,Y⟩:=(f k).mp c;have:=List.findIdx?_eq_none_iff.mp hi e J;rw[Y]at this;cases this
  have C:=layNew_perm t B ((intKind prog w).hash k) (.int k p);have N:=layNew_fits t B ((intKind prog w).hash k) (.int k p);have O:=zrX ht B ((intKind prog w).hash k) (.int k p);generalize layNew t B ((intKind prog w).hash k) (.int k p)=L at C N O⊢;let⟨d,t1,wd,gv⟩:=L;rw[Array.toList_push]at C;have m1:=(l.push h rfl).perm C;have m2:=mem_push_iff h f C;have sz:d.size=n+1:=by rw[<-length_toList,C.length_eq,length_append,length_toList,hn];rfl
  have T:d.size<scanBound:=by rw[sz];exact hr
  have gw:∀(b:Bool){i:Ζ}{Q':Unit->Ζ->Prop},Q' () i->wpAny (model prog w) A (match b with|true=>rule "set.scan.the-table-gave-way"|false=>pure ()) Q' E i:=λb i Q' hq=>by cases b<;>first|exact Ω hq|exact wpAny_rule hq
  refine Θ (gw _ ?_);have fin:∀h' b,Heap.SameBut a s.heap h'->SetD prog w h' a (λz=>S z||decide (z=k)) d.size->Q b {s with heap:=h'}:=λh' b hs hD=>q h' b hs (by rw[M];rw[sz]at hD;exact hD);have m:∀g:SetTable,g.fits d.size=Γ->TOk (!byT w) g->wpAny (model prog w) A (do
    storeSet a d g
    if(!wd&&g.tooFull)=Γ then do
        (match (relayAll g d (SetTable.grown d.size)).2.2 with|true=>rule "set.scan.the-table-gave-way"|false=>pure ())
        storeSet a (relayAll g d (SetTable.grown d.size)).1 (relayAll g d (SetTable.grown d.size)).2.1
        pure (Φ Γ)
     else pure (Φ Γ)) (λr s'=>wpAny (model prog w) A (match r with|some x=>pure x|none=>setAddHashedIn a (.int k p) ((intKind prog w).hash k) 99999) Q E s') E s:=by
   intro g f2 o2;let⟨k1,k2⟩:=zi7 H u I m1 m2 T f2 o2;refine Θ (wpAny_storeSet_of H I ?_ (fits_of_scanBound T));have sb:=Heap.SameBut.update s.heap a (Obj.putSet d g);split;have G:=relayAll_perm g d (SetTable.grown d.size);have r2:=relayAll_fits g d (SetTable.grown d.size);have r3:=zlw o2 d (SetTable.grown d.size);generalize relayAll g d (SetTable.grown d.size)=L2 at G r2 r3⊢;let⟨e2,t3,g2⟩:=L2;have z2:e2.size=d.size:=by rw[<-length_toList,G.length_eq,length_toList]
   refine Θ (gw _ (Θ (wpAny_storeSet_of k1 rfl ?_ (fits_of_scanBound (by rw[z2];exact T)))));let⟨_,k4⟩:=zi7 k1 u rfl (m1.perm G) (λz=>(m2 z).trans ⟨λv=>(by let⟨e,J,qq⟩:=v;exact ⟨e,G.mem_iff.mpr J,qq⟩),λy=>(by let⟨e,J,qq⟩:=y;exact ⟨e,G.mem_iff.mp J,qq⟩)⟩) (by rw[z2];exact T) r2 r3;rw[z2]at k4;exact Ω (Ω (fin _ _ (sb.trans (Heap.SameBut.update _ a _)) k4));exact Ω (Ω (fin _ _ sb k2))
  split;refine Θ ?_;exact Ω (m _ N O);exact Θ (Ω (m _ N O))
end
end R
section
set_option maxHeartbeats 8000000
namespace R
open PySem PySem.Spec PyProof.Rows
section
variable{prog:Ο}{w:ϋ}{A:ϐ}{R:Result->Ζ->Prop}{I:Addr}{fp wr:List Addr}{G:Array GenState->Array GenState->Prop}{n:Nat}{P:Nat->Ξ->Prop}{St:Nat->Ζ->Prop}
def zrT(W:WalksS prog w A.in1 I fp wr G n P St)(a)(u:a∉fp)(c)(C:∀i v,P i v->∃t,v=.int (c i) t)(f:n+1<scanBound):
  ∀(m i:Nat)(s:Ζ),n-i=m->i<=n->St i s->SetD prog w s.heap a (λz=>(firstMet c i).any (·==z)) (firstMet c i).length->
   (∀s',Moved (a::wr) G s s'->SetD prog w s'.heap a (λz=>(firstMet c n).any (·==z)) (firstMet c n).length->R (.ok (.ret .none)) s')->
   codeAny (model prog w) A (.builtin "set.update.loop" ⟨[.ref a,.ref I],[]⟩) R s:=by
 have x:a∉wr:=λz=>u (W.sub _ z);have y:∀b∈wr,b∈a::wr:=λb z=>Μ _ z;intro m;induction m with
 |zero=>
  intro i s E H st g fin;obtain rfl:i=n:=by lia
  refine ϝ F.entry_set_update_loop ?_;refine Θ (W.done s _ _ st λs' d=>?_);exact Ω (fin s' (d.mono y) (g.at λo e=>d.heap a o x e))
 |succ m J=>
  intro i s E H st g fin;refine ϝ F.entry_set_update_loop ?_;refine Θ (W.item i s _ _ (by lia) st λv s' L h d=>?_);let⟨t,rfl⟩:=C i v L;have j:=g.at λo e=>d.heap a o x e;refine Θ (ϓ ?_);refine ϓ (Θ ((intKind prog w).pyHash (intKind_is _ _ _ _) ?_));have room:(firstMet c i).length+1<scanBound:=by have:=firstMet_length_le c i;lia
  refine zui j room λh' b B l=>?_;have p:SetD prog w h' a (λz=>(firstMet c (i+1)).any (·==z)) (firstMet c (i+1)).length:=l.congr (λz=>by rw[firstMet_succ,step_any]) (by rw[firstMet_succ,step_length]);refine Ω ⟨plainId_quiet F.plain_set_update_loop _,J (i+1) _ (by lia) (by lia) (W.frame _ s' _ _ h (le_succ _) λb f o e=>?_) p λM q r=>?_⟩;rw[B.2 b λz:b=a=>u (z▸f)];exact e;refine fin M (Moved.trans W.gtrans ((d.mono y).then_heap (le_succ _) λb o f e=>?_) q) r;rw[B.2 b λz:b=a=>f (by rw[z];exact Ν)];exact e
end
section
variable{prog:Ο}{w:ϋ}{A:ϐ}{E:Ξ->Ζ->Prop}{s:Ζ}
noncomputable abbrev sD0(b:Bool):Obj:={cls:=.type "set",dict:=Ψ,data:=.set #[] 0 (.fresh 0 0 b)}
def ztI(a)(h:Q₁ (.ref s.heap.objs.size) {s with heap:=s.heap.push (sD0 (!byT w))}):codeAny (model prog w) A (.call (.builtin "set.__new__") ⟨[.type "set",a],[]⟩) (wants Q₁ E) s:=by
 refine codeAny_of_tree ?_;refine Θ (wpAny_of_eq (F.newCall_set_1 a) (Ω ⟨plainId_quiet F.plain_set_new _,ϝ F.entry_set_new ?_⟩));unfold Builtin.«set.__new__» Builtin.Frozenset.newClass;have q:=sub_set_self;dsimp only
 wp_walk
 exact wpAny_askSetting (Ω (Θ (wpAny_alloc (Ω (Ω h)))))
def zjc(hc:A.handled=Ψ)(hl:s.heap.IsList l its)(hi:IntsAre its.toList ms)(hb:its.size+1<scanBound)(fin:∀(g:Heap)(tk:Nat),SetD prog w g s.heap.objs.size (λz=>(firstMet (λi=>ms.getD i 0) its.size).any (·==z)) (firstMet (λi=>ms.getD i 0) its.size).length->
   (∀b o,b<s.heap.objs.size->s.heap.get? b=Φ o->g.get? b=Φ o)->Q (.ref s.heap.objs.size) {s with heap:=g,toks:=tk}):wpAny (model prog w) A (call (.type "set") [.ref l]) Q E s:=by
 let⟨mc,mt,hmro⟩:=F.called_set.mro;have c1:=F.called_set.made;have c2:=F.called_set.sub;refine ϟ (codeAny_of_tree ?_);show wpAny _ _ (callAny (.type "set") _) _ _ _;refine Ω ⟨Code.quiet_builtin _ (by decide +kernel),ϝ F.entry_type_call ?_⟩;rw[ϐ.under_plain (weight_type_call_type "set" [.ref l] []) rfl];have c3:=F.called_set.notType;have c4:=F.called_set.canCreate;have c5:=F.typeCall_set_1 (.ref l)
 repeat (any_goals (first|assumption|wp_step))
 refine ϕ (ztI (.ref l) (E:=E) (Q₁:=λo z=>o=.ref s.heap.objs.size/\z={s with heap:=s.heap.push (sD0 (!byT w))}) ⟨rfl,rfl⟩) λr z hr=>?_;cases r with
 |error e=>exact hr| ok fl=>
  cases fl with
  |ret o=>
   let⟨rfl,rfl⟩:=hr;have g0:(s.heap.push (sD0 (!byT w))).get? s.heap.objs.size=Φ (sD0 (!byT w)):=Ι _ rfl;have g1:Ζ.TypeIs {s with heap:=s.heap.push (sD0 (!byT w))} (.ref s.heap.objs.size) "set":=⟨_,g0,rfl⟩;have c6:=F.called_set.init.lookup;have c7:=F.called_set.init.bind (.ref s.heap.objs.size)
   repeat (any_goals (first|assumption|wp_step))
   refine ϕ (codeAny_call_builtin (R:=wants (λr z=>r=.none/\∃g tk,z={s with heap:=g,toks:=tk}/\
    SetD prog w g s.heap.objs.size (λz=>(firstMet (λi=>ms.getD i 0) its.size).any (·==z)) (firstMet (λi=>ms.getD i 0) its.size).length/\
    (∀b o,b<s.heap.objs.size->s.heap.get? b=Φ o->g.get? b=Φ o)) E) F.called_set.init.plain F.entry_set_init (check_set_init_1 g1 ?_)) λr2 z2 hr2=>?_
   . let⟨⟨oc,od,oda,osl⟩,ho,hcl,nl,hda⟩:=id hl;simp only at hcl hda;subst hcl hda;have ho':(s.heap.push (sD0 (!byT w))).get? l=Φ {cls:=.type "list",dict:=od,data:=.seq its nl,slots:=osl}:=Λ _ ho;have d1:=F.sub_list_set;have d2:=F.sub_list_frozenset;have d3:(Ξ.type "list" == Ξ.type "dict")=Δ:=by decide
     have ht1:(s.heap.push (sD0 (!byT w))).IsList l its:=⟨_,ho',rfl,nl,rfl⟩;unfold Builtin.«set.__init__» noKeywords Builtin.Frozenset.updateFrom;generalize hPI:pyIter=PI
     wp_walk
     subst hPI;refine wpAny_pyIter_list ht1 ?_;refine Θ (wpAny_runValue ?_);have tl:l<s.heap.objs.size:=Β ho;have tn:l≠(s.heap.push (sD0 (!byT w))).objs.size:=by rw[ϔ];exact ne_of_lt (ϡ tl)
     have sn:s.heap.objs.size∉[(s.heap.push (sD0 (!byT w))).objs.size,l]:=by rw[ϔ];simp![mem_cons,not_mem_nil,or_false,not_or];exact⟨ne_of_lt (ϖ _),ne_of_gt tl⟩
     refine zrT ((Walks.list (by simp[hc]) _ l tn its).toS) s.heap.objs.size sn (λi=>ms.getD i 0) (λi v hv=>IntsAre.int_at hi i v (by rw[Array.getElem?_toList];exact hv)) hb (its.size-0) 0 _ (by lia) (zero_le _)
      ⟨⟨_,Ι _ rfl,rfl,rfl⟩,ht1.push _⟩ ?start ?last
     case start=>exact⟨_,#[],0,_,Λ _ g0,⟨rfl,rfl,rfl⟩,rfl,λe he=>by simp at he,λk=>by simp[firstMet],by decide,by rfl,rfl,rfl,Pairwise.nil⟩
     case last=>rintro⟨g,gg,dd,tk,oo⟩ mv hS;obtain rfl:gg=s.gens:=mv.gens;obtain rfl:dd=s.drawn:=mv.drawn;obtain rfl:oo=s.os:=mv.os;show wpAny _ _ _ _ _ _;refine Ω ?_;show wpAny _ _ (ret Ξ.none) _ _ _;refine Ω ⟨rfl,g,tk,rfl,hS,λb o hb e=>mv.heap b o ?_ (Λ _ (Λ _ e))⟩;rw[ϔ];simp![mem_cons,not_mem_nil,or_false,not_or];exact⟨ne_of_lt hb,ne_of_lt (ϡ hb)⟩
   cases r2 with
   |error e=>exact hr2| ok f2=>
    cases f2 with
    |ret r=>
     let⟨rfl,g,tk,rfl,hS,hk⟩:=hr2
     repeat (any_goals (first|assumption|wp_step))
     exact fin _ _ hS hk
    |_=>exact hr2.elim
  |_=>exact hr.elim
end
end R
end
namespace R
open PySem PySem.Spec PyProof.Rows
def zfZ:entryFor table "set.__iter__"=Φ Builtin.«frozenset.__iter__»:=entryFor_alias (id':="frozenset.__iter__") (by kernel_rfl) rfl (by decide +kernel) (by kernel_rfl)
def slot_sit_next:Slot "set_iterator" "__next__" "set_iterator.__next__":=.of (owner:="set_iterator") (n:="__next__") (by kernel_rfl) (by decide +kernel) (by decide +kernel) (by decide +kernel) (by first|exact .inl (by decide +kernel)|exact .inr (by decide +kernel)) (by kernel_rfl)
def zbN:entryFor table "set_iterator.__next__"=Φ Builtin.«set_iterator.__next__»:=entryFor_of_fast (by kernel_rfl)
def zbC(a):argsOk "set_iterator.__next__" ⟨[a],[]⟩:=by kernel_rfl
def zaJ:Slot "set_iterator" "__iter__" "set_iterator.__iter__":=.of (owner:="set_iterator") (n:="__iter__") (by kernel_rfl) (by decide +kernel) (by decide +kernel) (by decide +kernel) (by first|exact .inl (by decide +kernel)|exact .inr (by decide +kernel)) (by kernel_rfl)
def zbO:entryFor table "set_iterator.__iter__"=Φ Builtin.«dict_keyiterator.__iter__»:=entryFor_alias (id':="dict_keyiterator.__iter__") (by kernel_rfl) rfl (by decide +kernel) (by kernel_rfl)
def zbD(a):argsOk "set_iterator.__iter__" ⟨[a],[]⟩:=by kernel_rfl
section
variable{prog:Ο}{w:ϋ}{A:ϐ}{E:Ξ->Ζ->Prop}{s:Ζ}{a j:Addr}{o:Obj}{es:Array (Int×Ξ)}{ep:Nat}{t:SetTable}
def ziE(c:n≠0)(h:∀i d',i<n->wpAny M A (k i) Q E {s with drawn:=d'}):wpAny M A (.choose d n k) Q E s:=λe p b=>by exact⟨c,h _ _ (Nat.mod_lt _ (Nat.pos_of_ne_zero c)) e p b⟩
def zcP{b:Type}:∀(l:List b)(j:Nat)(h:j<l.length),(l[j]::l.eraseIdx j).Perm l
 |x::l,0,h=>List.Perm.refl _| x::l,j+1,h=>by
  have c:j<l.length:=by simpa using h
  have d:=zcP l j c;exact(List.Perm.swap _ _ _).trans (d.cons x)
def zhU:∀(n:Nat)(xs:List d){s:Ζ}{Q:List d->Ζ->Prop},xs.length=n->(∀ys d',ys.Perm xs->Q ys {s with drawn:=d'})->wpAny (model prog w) A (drawOrder n xs) Q E s
 |0,xs,s,Q,b,h=>by cases length_eq_zero_iff.mp b;exact Ω (h [] s.drawn (List.Perm.refl _))|n+1,[],s,Q,b,h=>by cases b| n+1,x::xs,s,Q,b,h=>by refine Θ (ziE (by simp) λi d' c=>Ω ?_);rw[Η c];refine Θ (zhU n _ (by rw[List.length_eraseIdx_of_lt c];simp at b⊢;exact b) λys e f=>Ω (h _ e ?_));exact(f.cons _).trans (zcP _ _ c)
def zjI(f):∀(n k:Nat)(left:List d)(out:Array d),left.length=n->(pickOrder.go f n k left out).toList.Perm (out.toList++left)
 |0,k,left,out,c=>by cases List.length_eq_zero_iff.mp c;unfold pickOrder.go;rw[Ϟ]| n+1,k,left,out,c=>by unfold pickOrder.go;have b:f k%left.length<left.length:=Nat.mod_lt _ (by lia);rw[Η b];refine(zjI f n (k+1) _ _ (by rw[List.length_eraseIdx_of_lt b];lia)).trans ?_;rw[Array.toList_push,append_assoc];exact List.Perm.append_left _ (zcP _ _ b)
def zjH(f)(xs:Array b):(pickOrder f xs).toList.Perm xs.toList:=by have:=zjI f xs.size 0 xs.toList #[] (by simp);simpa[pickOrder]using this
abbrev SIt(h:Heap)(j a:Addr)(f:Ξ)(i n ep:Nat):Prop:=h.get? j=Φ {cls:=.type "set_iterator",dict:=Ψ,data:=.fields #[f,rawInt i,.ref a,rawInt n,rawInt ep],slots:=#[]}
def zg9{f f' i:Nat}(b:SIt s.heap j a (rawInt f) i es.size ep)(e:s.heap.get? a=Φ o)(hd:o.data=.set es ep t)(hf:t.fits es.size=Γ)(g:∀(A:ϐ)(E:Ξ->Ζ->Prop)(c:Option (Ξ×Nat)->Ζ->Prop),c (Φ (x,f')) s->wpAny (model prog w) A (setNext a f i ep) c E s)(q:∀h',SIt h' j a (rawInt f') (i+1) es.size ep->Heap.SameBut j s.heap h'->Q (Φ x) {s with heap:=h'}):wpAny (model prog w) A (pyNext (.ref j)) Q E s:=by
 have d:s.TypeIs (.ref j) "set_iterator":=⟨_,b,rfl⟩;refine Θ (wpAny_attempt (wpAny_callSpecial?_slot d slot_sit_next (ϗ slot_sit_next d zbN ?_ (zbC _))));refine Θ (Ω ?_);refine Θ (wpAny_fieldsOf b rfl ?_);refine Θ (wpAny_setEntries_of e hd hf ?_);rw[if_neg (by simp)];refine Θ (g _ _ _ ?_);refine Θ (wpAny_setField_rec b (by simp) λh k l=>?_);exact Θ (wpAny_setField_rec (s:={s with heap:=h}) k (by simp) λn p r=>(Ω ⟨_,rfl,Ω (q n p (l.trans r))⟩))
def zja(g:A.handled=Ψ)(h:SIt s.heap j a f i es.size ep)(r:s.heap.get? a=Φ o)(hd:o.data=.set es ep t)(hf:t.fits es.size=Γ)(l:∀(A:ϐ)(E:Ξ->Ζ->Prop)(m:Fin->Ζ->Prop),A.handled=Ψ->(∀h' e,Heap.ExtBut j s.heap h'->(∃c,h'.get? e=Φ c/\c.cls=.type "StopIteration")->E (.ref e) {s with heap:=h'})->wpAny (model prog w) A (Builtin.«set_iterator.__next__» ⟨[.ref j],[]⟩) m E s)(q:∀h',Heap.ExtBut j s.heap h'->Q Ψ {s with heap:=h'}):wpAny (model prog w) A (pyNext (.ref j)) Q E s:=by
 have d:s.TypeIs (.ref j) "set_iterator":=⟨_,h,rfl⟩;refine Θ (wpAny_attempt (wpAny_callSpecial?_slot d slot_sit_next (ϗ slot_sit_next d zbN ?_ (zbC _))));refine l _ _ _ g λh' e k z=>?_;let⟨c,n,p⟩:=z;exact Θ (wpAny_isInstance (b:=Γ) (T:="StopIteration") ⟨c,n,p⟩ isSubtype_stop (Ω (q h' k)))
def zeg(d:A.handled=Ψ)(f:Heap.ExtBut j s.heap s'.heap)(b:s'={s with heap:=s'.heap})(h:∀h' e,Heap.ExtBut j s.heap h'->(∃c,h'.get? e=Φ c/\c.cls=.type "StopIteration")->E (.ref e) {s with heap:=h'}):
  wpAny (model prog w) A (do raiseNew (<-newExc (.type "StopIteration") []):Sem Fin) g E s':=by
 rw[b];refine Θ ?_;refine Θ (ό ?_ (by size_fits));refine Θ (wpAny_of_eq (by first|rfl|(rfl)) (ό ?_ (by size_fits)));refine Θ (wpAny_handled ?_);rw[d];exact Θ (Ω (wpAny_throw (h _ _ ((f.push _).push _) ⟨_,Ι _ rfl,rfl⟩)))
def zha{f i:Nat}(e:A.handled=Ψ)(b:SIt s.heap j a (rawInt f) i es.size ep)(d:s.heap.get? a=Φ o)(hd:o.data=.set es ep t)(hf:t.fits es.size=Γ)(g:∀(A:ϐ)(E:Ξ->Ζ->Prop)(c:Option (Ξ×Nat)->Ζ->Prop),c Ψ s->wpAny (model prog w) A (setNext a f i ep) c E s)(q:∀h',Heap.ExtBut j s.heap h'->Q Ψ {s with heap:=h'}):wpAny (model prog w) A (pyNext (.ref j)) Q E s:=by
 refine zja e b d hd hf (λA E c h k=>?_) q;refine Θ (Ω ?_);refine Θ (wpAny_fieldsOf b rfl ?_);refine Θ (wpAny_setEntries_of d hd hf ?_);rw[if_neg (by simp)];refine Θ (g _ _ _ ?_);exact Θ (wpAny_setField_rec b (by simp) λl p n=>(zeg (s:=s) (s':={s with heap:=l}) h n.extBut rfl k))
abbrev PTg(h:Heap)(b:Addr)(c:List Nat):Prop:=h.get? b=Φ {cls:=.type "tuple",data:=.seq (c.map λ(p:Nat)=>rawInt p).toArray}
def zi9(b:SIt s.heap j a (.ref e) i es.size ep)(f:s.heap.get? a=Φ o)(hd:o.data=.set es ep t)(hf:t.fits es.size=Γ)(h:PTg s.heap e c)(k:c[i]?=Φ p)(l:es[p]?=Φ (hs,x))(q:∀h',SIt h' j a (.ref e) (i+1) es.size ep->Heap.SameBut j s.heap h'->Q (Φ x) {s with heap:=h'}):wpAny (model prog w) A (pyNext (.ref j)) Q E s:=by
 have g:s.TypeIs (.ref j) "set_iterator":=⟨_,b,rfl⟩;refine Θ (wpAny_attempt (wpAny_callSpecial?_slot g slot_sit_next (ϗ slot_sit_next g zbN ?_ (zbC _))));refine Θ (Ω ?_);refine Θ (wpAny_fieldsOf b rfl ?_);refine Θ (wpAny_setEntries_of f hd hf ?_);rw[if_neg (by simp)];refine Θ (wpAny_seqItems h rfl ?_);have n:(c.map λ(p:Nat)=>rawInt p).toArray[i]?=Φ (rawInt p):=by simp[k]
 show wpAny _ _ (match (c.map λ(p:Nat)=>rawInt p).toArray[i]? with|some (.int d _)=>_|some _=>_|none=>_) _ _ s;rw[n];show wpAny _ _ (setNextDrawn a p ep>>=_) _ _ s;refine Θ (Θ (wpAny_setState_of f hd hf ?_));dsimp only;rw[if_neg (by simp),l];refine Ω ?_;exact Θ (wpAny_setField_rec b (by simp) λr u v=>(Ω ⟨_,rfl,Ω (q r u v)⟩))
def zlh(f:A.handled=Ψ)(b:SIt s.heap j a (.ref g) i es.size ep)(e:s.heap.get? a=Φ o)(hd:o.data=.set es ep t)(hf:t.fits es.size=Γ)(h:PTg s.heap g c)(k:c.length<=i)(q:∀h',Heap.ExtBut j s.heap h'->Q Ψ {s with heap:=h'}):wpAny (model prog w) A (pyNext (.ref j)) Q E s:=by
 refine zja f b e hd hf (λA E B l n=>?_) q;refine Θ (Ω ?_);refine Θ (wpAny_fieldsOf b rfl ?_);refine Θ (wpAny_setEntries_of e hd hf ?_);rw[if_neg (by simp)];refine Θ (wpAny_seqItems h rfl ?_);have r:(c.map λ(p:Nat)=>rawInt p).toArray[i]?=Ψ:=by simp;exact k
 show wpAny _ _ (match (c.map λ(p:Nat)=>rawInt p).toArray[i]? with|some (.int d _)=>_|some _=>_|none=>_) _ _ s;rw[r];refine Θ (wpAny_setField_rec b (by simp) λu v x=>?_);exact Θ (wpAny_setField_rec (s:={s with heap:=u}) v (by simp) λy C z=>(zeg (s:=s) (s':={s with heap:=y}) l (x.trans z).extBut rfl n))
def zm3(b:byT w=Γ)(c:s.heap.get? a=Φ o)(hd:o.data=.set es ep t)(hf:t.fits es.size=Γ)(q:Q ((pickOrder (w.params.setOrder a ep) es)[i]?.map λe=>(e.2,f)) s):wpAny (model prog w) A (setNext a f i ep) Q E s:=by
 refine Θ (wpAny_setState_of c hd hf ?_);refine Θ (Θ (wpAny_askSetting (Ω ?_)));rw[if_pos (show(model prog w).w.params.followText "set-order"=Γ from b)];rw[if_neg (by simp)];refine Θ (Θ (wpAny_setState_of c hd hf ?_));refine Θ (Θ (wpAny_askSetting (Ω ?_)));rw[if_pos (show(model prog w).w.params.followText "set-order"=Γ from b)];exact Θ (wpAny_askSetting (Ω (Ω q)))
def zm4(b:byT w=Δ)(c:s.heap.get? a=Φ o)(hd:o.data=.set es ep t)(hf:t.fits es.size=Γ)(d:t.led=Γ)(e:(!t.plain&&decide (es.size>1))=Δ)(q:Q (match es[SetTable.below t.place f]?,t.place[SetTable.below t.place f]? with|some (_,x),Φ j=>Φ (x,j+1)|_,_=>Ψ) s):wpAny (model prog w) A (setNext a f i ep) Q E s:=by
 refine Θ (wpAny_setState_of c hd hf ?_);refine Θ (Θ (wpAny_askSetting (Ω ?_)));rw[if_neg (show ¬(model prog w).w.params.followText "set-order"=Γ by rw[show(model prog w).w.params.followText "set-order"=byT w from rfl,b];decide)];show wpAny _ _ (if(!t.plain&&decide (es.size>1))=Γ then _ else _) _ _ s;rw[if_neg (by rw[e];decide)];show wpAny _ _ ((if(!t.led&&!es.isEmpty)=Γ then unsupported "set:maker-not-led" else pure ())>>=_) _ _ s;rw[if_neg (by rw[d];simp)];exact Θ (Ω (Ω q))
@[reducible]def YP(b:List Ξ):Nat->Ξ->Prop:=λi v=>b[i]?=Φ v
def zpX(u:A.handled=Ψ)(l:a≠j)(c:byT w=Γ)(hd:o.data=.set es ep t)(hf:t.fits es.size=Γ) :
  Walks prog w A j [j,a] [j] ((pickOrder (w.params.setOrder a ep) es).toList.map (·.2)).length (YP ((pickOrder (w.params.setOrder a ep) es).toList.map (·.2))) (λi h=>SIt h j a (rawInt 0) i es.size ep/\h.get? a=Φ o) where
 sub:=λb c=>by simp at c;simp[c]
 frame:=λ_ _ _ st p=>⟨p j (by simp) _ st.1,p a (by simp) _ st.2⟩
 item:=λi s Q E v st f=>by
  have d:i<(pickOrder (w.params.setOrder a ep) es).size:=by simpa using v
  refine zg9 st.1 st.2 hd hf (λA E y q=>zm3 c st.2 hd hf (by rw[Array.getElem?_eq_getElem d];exact q)) λm g r=>?_;exact f _ m s.toks (by simp[YP,d]) ⟨g,r.extBut a _ l st.2⟩ λb o c e=>r.extBut b o (λz=>c (by simp[z])) e
 done:=λs Q E st f=>by
  have d:(pickOrder (w.params.setOrder a ep) es).size<=((pickOrder (w.params.setOrder a ep) es).toList.map (·.2)).length:=by simp
  exact zha u st.1 st.2 hd hf (λA E y q=>zm3 c st.2 hd hf (by rw[Array.getElem?_eq_none d];exact q)) λm k=>f m s.toks λb o c e=>k b o (λz=>c (by simp[z])) e
 self:=λi s Q E st f=>by have n:s.TypeIs (.ref j) "set_iterator":=⟨_,st.1,rfl⟩;refine wpAny_pyIter_slot n zaJ (ϗ zaJ n zbO ?_ (zbD _));exact Ω ⟨_,rfl,"set_iterator",_,n,slot_sit_next.lookup,f⟩
abbrev zg8(t:SetTable):Nat->Nat
 |0=>0|i+1=>t.place.getD i 0+1
def zeh(h:Rise t.place)(c:i<=t.place.size):SetTable.below t.place (zg8 t i)=i:=by
 cases i with
 |zero=>exact ziJ h| succ i=>
  have b:i<t.place.size:=by lia
  show SetTable.below t.place (t.place.getD i 0+1)=_;rw[show t.place.getD i 0=t.place[i] by simp[b]];exact ziK h b
def zpY(C:A.handled=Ψ)(m:a≠j)(c:byT w=Δ)(hd:o.data=.set es ep t)(hf:t.fits es.size=Γ)(l:TOk (!byT w) t)(v:(!t.plain&&decide (es.size>1))=Δ) :
  Walks prog w A j [j,a] [j] (es.toList.map (·.2)).length (YP (es.toList.map (·.2))) (λi h=>i<=es.size/\SIt h j a (rawInt (zg8 t i)) i es.size ep/\h.get? a=Φ o) where
 sub:=λb c=>by simp at c;simp[c]
 frame:=λ_ _ _ st y=>⟨st.1,y j (by simp) _ st.2.1,y a (by simp) _ st.2.2⟩
 item:=λi s Q E G st f=>by
  have d:i<es.size:=by simpa using G
  have H:t.place.size=es.size:=by simp![SetTable.fits,Ε,beq_iff_eq]at hf;exact hf.1
  have n:t.led=Γ:=by rw[l.led,c];rfl
  have p:t.place[i]?=Φ t.place[i]:=Array.getElem?_eq_getElem (by omega);refine zg9 (x:=es[i].2) (f':=zg8 t (i+1)) st.2.1 st.2.2 hd hf (λA E I q=>zm4 c st.2.2 hd hf n v ?_) λr g B=>?_;rw[zeh l.rise (by omega),Array.getElem?_eq_getElem d,p];have:zg8 t (i+1)=t.place[i]+1:=by show t.place.getD i 0+1=_;simp[show i<t.place.size by omega]
  rw[this]at q;exact q;exact f _ r s.toks (by simp[YP,d]) ⟨d,g,B.extBut a _ m st.2.2⟩ λb o c e=>B.extBut b o (λz=>c (by simp[z])) e
 done:=λs Q E st f=>by
  have H:t.place.size=es.size:=by simp![SetTable.fits,Ε,beq_iff_eq]at hf;exact hf.1
  have n:t.led=Γ:=by rw[l.led,c];rfl
  have J:(es.toList.map (·.2)).length=es.size:=by simp
  rw[J]at st;refine zha C st.2.1 st.2.2 hd hf (λA E I q=>zm4 c st.2.2 hd hf n v ?_) λr k=>f r s.toks λb o c e=>k b o (λz=>c (by simp[z])) e;rw[zeh l.rise (by omega),Array.getElem?_eq_none (le_refl _)];exact q
 self:=λi s Q E st f=>by have u:s.TypeIs (.ref j) "set_iterator":=⟨_,st.2.1,rfl⟩;refine wpAny_pyIter_slot u zaJ (ϗ zaJ u zbO ?_ (zbD _));exact Ω ⟨_,rfl,"set_iterator",_,u,slot_sit_next.lookup,f⟩
abbrev zgB(es:Array (Int×Ξ))(b:List Nat):List Ξ:=b.map λp=>(es.getD p (0,.none)).2
def zpZ{f:Addr}{c:List Nat}(C:A.handled=Ψ)(q:a≠j)(r:f≠j)(hd:o.data=.set es ep t)(hf:t.fits es.size=Γ)(G:∀p∈c,p<es.size) :
  Walks prog w A j [j,a,f] [j] (zgB es c).length (YP (zgB es c)) (λi h=>SIt h j a (.ref f) i es.size ep/\h.get? a=Φ o/\PTg h f c) where
 sub:=λb l=>by simp at l;simp[l]
 frame:=λ_ _ _ st u=>⟨u j (by simp) _ st.1,u a (by simp) _ st.2.1,u f (by simp) _ st.2.2⟩
 item:=λi s Q E H st m=>by
  have d:i<c.length:=by simpa[zgB]using H
  have n:=G _ (List.getElem_mem d);refine zi9 st.1 st.2.1 hd hf st.2.2 (Η d) (Array.getElem?_eq_getElem n) λv g y=>?_;exact m _ v s.toks (by simp[YP,zgB,d,n]) ⟨g,y.extBut a _ q st.2.1,y.extBut f _ r st.2.2⟩ λb o l e=>y.extBut b o (λz=>l (by simp[z])) e
 done:=λs Q E st m=>zlh C st.1 st.2.1 hd hf st.2.2 (by simp[zgB]) λv k=>m v s.toks λb o l e=>k b o (λz=>l (by simp[z])) e
 self:=λi s Q E st m=>by have B:s.TypeIs (.ref j) "set_iterator":=⟨_,st.1,rfl⟩;refine wpAny_pyIter_slot B zaJ (ϗ zaJ B zbO ?_ (zbD _));exact Ω ⟨_,rfl,"set_iterator",_,B,slot_sit_next.lookup,m⟩
def zlN(es)(h:b.Perm (List.range es.size)):(zgB es b).Perm (es.toList.map (·.2)):=by refine(h.map _).trans (List.Perm.of_eq ?_);apply ext_getElem?;intro i;by_cases c:i<es.size;simp[c];simp[c]
end
section
variable{prog:Ο}{w:ϋ}{A:ϐ}{E:Ξ->Ζ->Prop}{s:Ζ}{a:Addr}{o:Obj}{es:Array (Int×Ξ)}{ep:Nat}{t:SetTable}
structure Got(prog:Ο)(w:ϋ)(h0 h':Heap)(a:Addr)(vals:List Ξ)(I:Addr)(fp:List Addr)(St:Nat->Heap->Prop):Prop where
 wk:∀A:ϐ,A.handled=Ψ->Walks prog w A I fp [I] vals.length (YP vals) St
 st:St 0 h'
 old:∀b o,h0.get? b=Φ o->h'.get? b=Φ o
 new:h0.objs.size<=I
 lt:I<h'.objs.size
 fp:∀b∈fp,b=a\/(h0.objs.size<=b/\b<h'.objs.size)
def zlk(r:s.heap.get? a=Φ o)(B:o.ExactSet)(hd:o.data=.set es ep t)(hf:t.fits es.size=Γ)(N:TOk (!byT w) t)(hz:es.size<scanBound)(q:∀(h':Heap)(d':Drawn)(I:Addr)(u:List Addr)(St:Nat->Heap->Prop)(c:List Ξ),c.Perm (es.toList.map (·.2))->Got prog w s.heap h' a c I u St->Q (.ref I) {s with heap:=h',drawn:=d'}):
  wpAny (model prog w) A (pyIter (.ref a)) Q E s:=by
 have L:s.TypeIs (.ref a) "set":=⟨_,r,B.1⟩;have C:=Β r;refine wpAny_pyIter_slot L F.slot_set_iter (ϗ F.slot_set_iter L zfZ ?_ (F.args_set_iter_1 _));refine Θ (Ω ?_);refine Θ (Θ (wpAny_setEntries_of r hd hf (Ω ?_)));refine Θ (Θ (wpAny_setState_of r hd hf ?_));refine Θ (Θ (wpAny_askSetting (Ω (Ω ?_))));show wpAny _ _ (if(!byT w&&(!t.plain&&decide (es.size>1)))=Γ then _ else _) _ _ s;have mk:∀(k:Heap)(d':Drawn)(l:Ξ),(∀b o,s.heap.get? b=Φ o->k.get? b=Φ o)->s.heap.objs.size<=k.objs.size->
   (∀h',h'.objs.size=k.objs.size+1->(∀b o,k.get? b=Φ o->h'.get? b=Φ o)->SIt h' k.objs.size a l 0 es.size ep->∃u St c,c.Perm (es.toList.map (·.2))/\Got prog w s.heap h' a c k.objs.size u St)->
   wpAny (model prog w) A.in1 (do ret (<-newFields "set_iterator" [l,rawInt 0,.ref a,rawInt es.size,rawInt (<-setEpoch a)])) (λfin M=>∃v,fin=.done (.ret v)/\∃T id,M.TypeIs v T/\typeLookup (.type T) "__next__"=pure (Φ id)/\Q v M) E {s with heap:=k,drawn:=d'}:=by
  intro k d' l j O G;refine Θ (wpAny_setEpoch_of (j _ _ r) hd hf ?_);refine Θ (ό (Ω ⟨_,rfl,"set_iterator",_,⟨_,Ι _ rfl,rfl⟩,slot_sit_next.lookup,?_⟩));let⟨u,St,c,n,G⟩:=G (k.push {cls:=.type "set_iterator",data:=.fields #[l,rawInt 0,.ref a,rawInt es.size,rawInt ep]}) (ϔ ..) (λb o e=>Λ _ e) (Ι _ rfl);exact q _ d' _ u St c n G
 by_cases f:byT w=Γ;rw[if_neg (by rw[f];simp)];refine Θ (Ω ?_);refine mk s.heap s.drawn (rawInt 0) (λb o e=>e) (le_refl _) λh' d j h=>⟨[s.heap.objs.size,a],_,_,(zjH _ es).map _,⟨λA x=>zpX x (ne_of_lt C) f hd hf,⟨h,j _ _ r⟩,j,le_refl _,by rw[d];exact ϖ _,λb f=>?_⟩⟩;simp![mem_cons,not_mem_nil,or_false]at f;rcases f with z|z;exact .inr ⟨le_of_eq z.symm,by rw[z,d];exact ϖ _⟩;exact .inl z;have f:byT w=Δ:=by simpa using f
 by_cases n:(!t.plain&&decide (es.size>1))=Γ;rw[if_pos (by rw[f,n];rfl)];refine Θ (zhU es.size (List.range es.size) (by simp) λy d' g=>?_);have H:y.length<=sizeLine:=by rw[g.length_eq,List.length_range];exact fits_of_scanBound hz
 refine Θ (ό ?_ (by show(List.map (λ(i:Nat)=>rawInt i) y).toArray.size<=sizeLine;simpa using H));have J:∀p∈y,p<es.size:=λp n=>mem_range.mp (g.mem_iff.mp n);refine mk (s.heap.push {cls:=.type "tuple",data:=.seq (y.map λ(i:Nat)=>rawInt i).toArray}) d' (.ref s.heap.objs.size) (λb o e=>Λ _ e) (by rw[ϔ];lia) λh' d j h=>?_;have U:(s.heap.push {cls:=.type "tuple",data:=.seq (y.map λ(i:Nat)=>rawInt i).toArray}).objs.size=s.heap.objs.size+1:=ϔ ..;rw[U]at h d⊢;refine⟨[s.heap.objs.size+1,a,s.heap.objs.size],_,_,zlN es g,⟨λA x=>zpZ x (ne_of_lt (ϡ C)) (ne_of_lt (ϖ _)) hd hf J,⟨h,j _ _ (Λ _ r),j _ _ (Ι _ rfl)⟩,λb o e=>j _ _ (Λ _ e),le_succ _,by rw[d];exact ϖ _,λb f=>?_⟩⟩;simp![mem_cons,not_mem_nil,or_false]at f;rcases f with z|z|z;exact .inr ⟨by rw[z];exact le_succ _,by rw[z,d];exact ϖ _⟩;exact .inl z;exact .inr ⟨le_of_eq z.symm,by rw[z,d];exact ϡ (ϖ _)⟩;have n:(!t.plain&&decide (es.size>1))=Δ:=by simpa using n
 rw[if_neg (by rw[n];simp)];refine Θ (Ω ?_);refine mk s.heap s.drawn (rawInt 0) (λb o e=>e) (le_refl _) λh' d j h=>⟨[s.heap.objs.size,a],_,_,List.Perm.refl _,⟨λA x=>zpY x (ne_of_lt C) f hd hf N n,⟨zero_le _,h,j _ _ r⟩,j,le_refl _,by rw[d];exact ϖ _,λb f=>?_⟩⟩;simp![mem_cons,not_mem_nil,or_false]at f;rcases f with z|z;exact .inr ⟨le_of_eq z.symm,by rw[z,d];exact ϖ _⟩;exact .inl z
def zll(e:s.TypeIs (.ref a) "set")(h:Q Δ s):wpAny (model prog w) A (Builtin.List.listLengthHint (.ref a)) Q E s:=by
 refine Θ (wpAny_specialOf e F.slot_set_len.lookup ?_);generalize d:("set.__len__":String)=f
 wp_delta
 subst d;refine Θ (wpAny_isInstance (b:=Γ) e (by kernel_rfl) ?_);refine wpAny_ite_split (λc=>absurd c (by decide)) (λ_=>?_);refine wpAny_ite_split (λ_=>?_) (λc=>absurd (by decide +kernel) c);exact Θ (wpAny_typeOf e (Ω h))
def zig(C:A.handled=Ψ)(x:s.heap.get? a=Φ o)(k:o.ExactSet)(hd:o.data=.set es ep t)(hf:t.fits es.size=Γ)(O:TOk (!byT w) t)(hz:es.size<scanBound)(S)(n:S≠a)(res)(p)(hS:s.heap.get? S=Φ {cls:=.type "list",data:=.seq #[] p})(Q:∀h' d' U d c,(∀b o,b≠S->s.heap.get? b=Φ o->h'.get? b=Φ o)->h'.get? S=Φ {cls:=.type "list",dict:=Ψ,data:=.seq d c,slots:=#[]}->d.toList.Perm (es.toList.map (·.2))->R (.ok (.ret res)) {s with heap:=h',drawn:=d',toks:=U}):
  wpAny (model prog w) A.in1 (Builtin.List.listExtendWith (.ref S) (.ref a) res)
   (λfin s'=>match fin with|.done f=>R (.ok f) s'|.again H=>H.quiet=Γ/\codeAny (model prog w) A H R s') (λe s'=>R (.error e) s') s:=by
 have y:=Β hS;unfold Builtin.List.listExtendWith;refine Θ (wpAny_typeOf (T:="set") ⟨_,x,k.1⟩ ?_);rw[if_neg (by simp[Builtin.List.listSameRef,n])];refine Θ (zlk x k hd hf O hz λu d' I Y St g J G=>?_);have q:=G.old _ _ hS;refine Θ (ϓ (zll (s:={s with heap:=u,drawn:=d'}) ⟨_,G.old _ _ x,k.1⟩ ?_));rw[if_pos (by decide +kernel)];refine Θ (wpAny_rule (Θ ?_));show wpAny _ _ (updateSeq S (·.push .none)>>=λ_=>updateSeq S (·.pop)) _ _ _;refine Θ (wpAny_updateSeq (s:={s with heap:=u,drawn:=d'}) q rfl ?_);have h:=ϑ (Obj.mapSeq (·.push Ξ.none)) q rfl;refine wpAny_updateSeq (hz:=by seq_fits) h rfl ?_;have l:=ϑ (Obj.mapSeq (·.pop)) h rfl;have L:∀b o,b≠S->u.get? b=Φ o->((u.update S (Obj.mapSeq (·.push Ξ.none))).update S (Obj.mapSeq (·.pop))).get? b=Φ o:=λb o m e=>(Ρ _ _ (Ne.symm m)).trans ((Ρ _ _ (Ne.symm m)).trans e);have r:S∉Y:=λv=>by rcases G.fp S v with z|z;exact n z;exact Nat.not_lt.mpr z.1 y
 have hv:g.length<=sizeLine:=by rw[J.length_eq,length_map,length_toList];exact fits_of_scanBound hz
 refine Ω ⟨plainId_quiet PySem.F.plain_extend_loop _,codeAny_extend_loopS (G.wk A.in1 C).toS hv S r res g.length 0 _ #[] _ rfl (zero_le _) ?_ l (ItemsOf.nil _) λs' d c M B j=>?_⟩;exact(G.wk A.in1 C).frame 0 _ _ G.st λb m o e=>L b o (λz=>r (z▸m)) e;rw[Moved.eq_with M];refine Q s'.heap d' s'.toks d c (λb o m e=>M.heap b o (λv=>?_) (L b o m (G.old _ _ e))) B ?_;simp![mem_cons,not_mem_nil,or_false]at v;rcases v with z|z;exact m z;exact Nat.not_lt.mpr (z▸G.new) (Β e);have:d.toList=g:=by refine ext_getElem? λi=>?_;by_cases hi:i<d.size;have N:=Array.getElem?_eq_getElem hi;have e2:=j.2 i _ N;rw[Array.getElem?_toList,N];exact e2.symm;rw[List.getElem?_eq_none (by rw[length_toList];lia),List.getElem?_eq_none (by have:=j.1;lia)]
 rw[this];exact J
def zgo(C:A.handled=Ψ)(v:s.heap.get? a=Φ o)(p:o.ExactSet)(hd:o.data=.set es ep t)(hf:t.fits es.size=Γ)(G:TOk (!byT w) t)(hz:es.size<scanBound)(h:∀(h':Heap)(d':Drawn)(i:Nat)(j:List Ξ),(∀b o,s.heap.get? b=Φ o->h'.get? b=Φ o)->s.heap.objs.size<h'.objs.size->j.Perm (es.toList.map (·.2))->R j {s with heap:=h',drawn:=d',toks:=i}):
  wpAny (model prog w) A (collect (.ref a)) R E s:=by
 have H:=Β v;refine Θ (wpAny_runValue (ϝ PySem.F.entry_proto_collect ?_));refine Θ (ό ?_);refine Ω ⟨plainId_quiet PySem.F.plain_list_iadd _,ϝ PySem.F.entry_list_iadd ?_⟩;have k:(s.heap.push {cls:=.type "list",data:=.seq ([]:List Ξ).toArray}).get? s.heap.objs.size=Φ {cls:=.type "list",data:=.seq #[]}:=Ι _ rfl;have r:=zig (prog:=prog) (s:={s with heap:=s.heap.push {cls:=.type "list",data:=.seq ([]:List Ξ).toArray}})
  (R:=λ(q:Result) (u:Ζ)=>∃(h':Heap) (d':Drawn) (i:Nat) (c:Array Ξ) (m:Nat),q=.ok (.ret (.ref s.heap.objs.size))/\u={s with heap:=h',drawn:=d',toks:=i}/\
   (∀b o,s.heap.get? b=Φ o->h'.get? b=Φ o)/\h'.get? s.heap.objs.size=Φ {cls:=.type "list",dict:=Ψ,data:=.seq c m,slots:=#[]}/\c.toList.Perm (es.toList.map (·.2)))
  C (Λ _ v) p hd hf G hz s.heap.objs.size (ne_of_gt H) (.ref s.heap.objs.size) 0 k
  (λh' d' i c m n g d=>⟨h',d',i,c,m,rfl,rfl,λb o e=>n b o (ne_of_lt (Β e)) (Λ _ e),g,d⟩)
 refine Τ r (λfin u x=>?_) λe u x=>?_;cases fin with| done f=>let⟨h',d',i,c,m,e,rfl,n,g,d⟩:=x;cases e;exact Θ (wpAny_load g (Ω (h h' d' i _ n (Β g) d)))| again z=>refine⟨x.1,ϕ x.2 λq B y=>?_⟩;let⟨h',d',i,c,m,rfl,rfl,n,g,d⟩:=y;exact Θ (wpAny_load g (Ω (h h' d' i _ n (Β g) d)))
 let⟨_,_,_,_,_,I,_⟩:=x;cases I
end
end R
namespace R
open PySem PySem.Spec PyProof.Rows L2
def ze2(x):∀l:List Int,(insZ x l).Perm (x::l)
 | []=>List.Perm.refl _| y::l=>by unfold insZ;split;exact List.Perm.refl _;exact((ze2 x l).cons y).trans (List.Perm.swap ..)
def zet(x):∀{l:List Int},l.Pairwise (·<=·)->(insZ x l).Pairwise (·<=·)
 | [],_=>by simp[insZ]| y::l,h=>by have a:=pairwise_cons.mp h;unfold insZ;split;rename_i c;exact pairwise_cons.mpr ⟨λz b=>by rcases mem_cons.mp b with e|e;rw[e];exact c;exact Int.le_trans c (a.1 z e),h⟩;refine pairwise_cons.mpr ⟨λz b=>?_,zet x a.2⟩;rcases mem_cons.mp ((ze2 x l).mem_iff.mp b) with e|e;lia;exact a.1 z e
def zas:∀l:List Int,(zaq l).Perm l
 | []=>List.Perm.refl _|x::l=>(ze2 x _).trans ((zas l).cons x)
def zaR:∀l:List Int,(zaq l).Pairwise (·<=·)
 | []=>Pairwise.nil|x::l=>zet x (zaR l)
def zcF:∀{a b:List Int},a.Perm b->a.Pairwise (·<=·)->b.Pairwise (·<=·)->a=b
 | [],b,p,_,_=>(List.nil_perm.mp p).symm|x::a,[],p,_,_=>absurd (List.perm_nil.mp p) (by simp)| x::a,y::b,p,f,g=>by
  have c:=pairwise_cons.mp f;have d:=pairwise_cons.mp g;have h:y<=x:=by rcases mem_cons.mp (p.mem_iff.mp Ν) with e|e;exact Int.le_of_eq e.symm;exact d.1 x e
  have i:x<=y:=by rcases mem_cons.mp (p.mem_iff.mpr Ν) with e|e;exact Int.le_of_eq e.symm;exact c.1 y e
  cases Int.le_antisymm h i;rw[zcF (List.Perm.cons_inv p) c.2 d.2]
def zci(ns):(R.dedup ns).Nodup:=by
 suffices ∀(l d:List Int),d.Nodup->(l.foldl (λd x=>if d.contains x then d else d++[x]) d).Nodup from this ns [] List.nodup_nil
 intro l;induction l with|nil=>intro d h;exact h| cons x l g=>intro d h;refine g _ ?_;show(if d.contains x=Γ then d else d++[x]).Nodup;split;exact h;rename_i c;refine nodup_append.mpr ⟨h,by simp,λa i b f e=>?_⟩;simp![mem_singleton]at f;subst f;subst e;exact c (by simpa using i)
def zb7:∀{a:List Int}{b:List Int},a.Nodup->(∀x∈a,x∈b)->b.length=a.length->a.Perm b
 | [],b,_,_,h=>by rw[length_eq_zero_iff.mp h]| x::a,b,i,d,h=>by have c:=nodup_cons.mp i;have f:=d x Ν;have j:=List.perm_cons_erase f;refine List.Perm.trans ((zb7 c.2 (λy g=>?_) ?_).cons x) j.symm;exact(List.mem_erase_of_ne (λe:y=x=>c.1 (e▸g))).mpr (d y (Μ _ g));rw[List.length_erase_of_mem f,h];simp
abbrev SetO(prog:Ο)(w:ϋ)(o:Obj)(ns:List Int):Prop:=∃a c t b,o.ExactSet/\o.data=.set a c t/\t.fits a.size=Γ/\TOk (!byT w) t/\a.size<scanBound/\IntsAre (a.toList.map (·.2)) b/\b.Perm ns
def zkr:∀{l:List (Int×Ξ)},ElemsOf (intKind prog w) l->∃a,IntsAre (l.map (·.2)) a
 | [],_=>⟨[],.nil⟩| e::l,h=>by let⟨a,b⟩:=zkr λx c=>h x (Μ _ c);let⟨⟨k,d,_⟩,_⟩:=h e Ν;let⟨t,f⟩:=Ξ.isInt_shape d;exact⟨k::a,by rw[Υ,f];exact .cons _ _ b⟩
def zkq:∀{us vs:List Ξ}{ns:List Int},us.Perm vs->IntsAre vs ns->∃a,IntsAre us a/\a.Perm ns:=by
 intro us vs ns p;induction p generalizing ns with
 |nil=>intro h;exact⟨ns,h,List.Perm.refl _⟩| cons x p f=>intro h;cases h with| cons _ _ h=>let⟨a,b,c⟩:=f h;exact⟨_::a,.cons _ _ b,c.cons _⟩
 |swap x y l=>intro h;cases h with| cons _ _ h=>cases h with|cons _ _ h=>exact⟨_,.cons _ _ (.cons _ _ h),List.Perm.swap ..⟩
 |trans p q d e=>intro h;let⟨a,b,c⟩:=e h;let⟨g,i,j⟩:=d b;exact⟨g,i,j.trans c⟩
def zhw:∀{l:List (Int×Ξ)}{b:List Int},IntsAre (l.map (·.2)) b->∀k,(∃e∈l,(intKind prog w).is k e.2=Γ)->k∈b
 | [],_,h,k,⟨e,a,_⟩=>by simp at a| e::l,_,h,k,⟨f,a,c⟩=>by rw[Υ]at h;generalize g:e.2=v at h;cases h with| cons _ _ h=>rcases mem_cons.mp a with z|z;let⟨t,d⟩:=Ξ.isInt_shape c;rw[z,g]at d;cases d;exact Ν;exact Μ _ (zhw h k ⟨f,z,c⟩)
def SetO.of(x:SetD prog w h a S ns.length)(c:ns.Nodup)(hS:∀k∈ns,S k=Γ):∃o,h.get? a=Φ o/\SetO prog w o ns:=by let⟨o,d,e,t,f,g,i,j,l,m,n,p,q⟩:=x;let⟨r,b⟩:=zkr j;refine⟨o,f,d,e,t,r,g,i,n,q,m,b,(zb7 c (λk s=>zhw b k ((l k).mp (hS k s))) ?_).symm⟩;rw[<-b.length,length_map,length_toList,p]
section
variable[Mks]{X:Cx}
def zkp(I:Inv X c e H s)(k:∀b u,s.heap.get? b=Φ u->h'.get? b=Φ u)(d:s.heap.objs.size<=a)(new:ObjOk X.prog X.w (upd H a o) h' a o):
 Inv X c e (upd H a o) {s with heap:=h',drawn:=d',toks:=t'}:=I.call' rfl (Un.laid k d (I.hok.fresh d)) (I.hok.laid k d new) I.bare λb (f:b∈([]:List Addr))=>by cases f
def znT(m:X.calm=Γ):zbi X (.type "set") (λxs H Q=>∃(a:Addr) (ns:List Int),xs=[.ref a]/\SqL X.K H a (ns.map V.int)/\ns.length<4000/\∀p,H p=Ψ->∀o,SetO X.prog X.w o (R.dedup ns)->Q (.ref p) (upd H p (.frz o (.own 0)))):=by
 intro d s B H xs C Q I r h;let⟨a,ns,rfl,n,E,q⟩:=h;let⟨u,rfl,t⟩:=r.one;cases(show u=Ξ.ref a from t);have fresh:=I.hok.fresh (le_refl s.heap.objs.size);have v:=I.ok.hd m;let⟨c,f,w,x⟩:=I.list n;have i:c.toArray.size=ns.length:=by rw[size_toArray,<-f.length,length_map]
 refine zjc v w.isList (zes f) (by unfold scanBound;lia) λg G j y=>?_;rw[i,<-zf1]at j;let⟨o,l,z⟩:=SetO.of j (zci ns) (λk A=>List.any_eq_true.mpr ⟨k,A,by simp⟩);exact⟨.ref s.heap.objs.size,_,I.laid (o:=.frz o (.own 0)) (λb o e=>y b o (Β e) e) (le_refl _) ⟨l,_,l⟩,rfl,q _ fresh o z⟩
def zid(C:X.calm=Γ):zbi X (.builtin "sorted") (λxs H Q=>∃(a:Addr) (o:Obj) (ns:List Int),xs=[.ref a]/\H a=Φ (.frz o (.own 0))/\SetO X.prog X.w o ns/\ns.length<64/\∀p,H p=Ψ->Q (.ref p) (upd H p (.lst ((zaq ns).map V.int)))):=by
 intro x s σ H xs us Q I r h;let⟨a,o,ns,rfl,E,⟨es,ep,t,ms,G,J,L,M,N,O,y⟩,l,q⟩:=h;let⟨u,rfl,T⟩:=r.one;cases(show u=Ξ.ref a from T);have U:=(show ObjOk X.prog X.w H s.heap a (.frz o (.own 0)) from I.hok a _ E).1;have Y:=I.ok.hd C;refine Calls.call_function_entry kind_sorted plain_sorted entry_sorted (args_sorted1 _) ?_;refine Θ (Ω ?_);refine Θ (zgo Y U G J L M N λk d' tk d kp n hp=>?_);let⟨ks,g,z⟩:=zkq hp O;have i:d.length<64:=by rw[g.length,(z.trans y).length_eq];exact l
 refine Θ (wpAny_newList ?_ (by rw[Χ];lia));have f:(k.push (seqObj "list" d.toArray 0)).get? k.objs.size=Φ (seqObj "list" d.toArray 0):=Ι _ rfl;refine Θ (ϓ (ϗ slot_list_sort ⟨_,f,rfl⟩ entry_list_sort (list_sort_tree f g i λout v a1 a2 a3=>⟨_,rfl,?_⟩) (args_list_sort _)));have j:=le_of_lt n;have en:=zcF (a2.trans (z.trans (y.trans (zas ns).symm))) a3 (zaR ns);subst en;let⟨c,w⟩:=sortedHeap_at f;refine Ω ⟨_,rfl,.ref k.objs.size,_,zkp (s:=s) (o:=.lst ((zaq ns).map V.int)) I (λb u e=>?_) j ⟨?_,out.toList,c,zck a1,?_⟩,rfl,q _ (I.hok.fresh j)⟩;have A:=kp b u e;have B:=Β A;rw[sortedHeap_old (ne_of_lt B) (Nat.lt_of_lt_of_eq (ϡ B) (ϔ ..).symm)];exact Λ _ A;rw[length_map,(zas ns).length_eq,Χ];lia;exact w
variable{T:Tab}{cf:CF}{k:Nat}{N:List Str}{sc:Scope}{pos p p2 pos':Pos}
def zgh:bootBuiltins "sorted"=Φ (.builtin "sorted"):=by rfl
def znV(G:Gd T cf k N sc X)(s:Gl X "sorted"/\X.mg "sorted"=Ψ)(t:Gl X "set"/\X.mg "set"=Ψ)(B:PE X e (tE X.K cf C))(f:zai e=Γ):
  PE X (.Call (.Name "sorted" p) [.Call (.Name "set" p2) [e] [] pos'] [] pos) (tE X.K cf (.sset C)):=by
 have m:=zbg (p:=p2) (pos:=pos') (znT G.calm) t.1 t.2 zsB (zaP B f) (by decide) (by decide) (zah f [] X.env);refine PE.imp (zbl (zid G.calm) s.1 s.2 zgh (zaP m rfl) (by decide) (by decide) rfl) λσ H Qv z=>?_;let⟨δ,ι,S,Q,E,I,w,q⟩:=z;change W (Out.bind _ _) _ at w;simp![zab] at w;refine tE.run E I w λd v g u J L M h O U=>?_;let⟨n,b,r⟩:=zau U;unfold lstI at b;split at r;cases d with
 |ref l=>
  let⟨a,Y,rfl⟩:=O;dsimp only at b;cases i:J.get l with
  |none=>rw[i]at b;exact nS b
  |some ob=>rw[i]at b;cases ob with| lst ds=>let⟨a',x,zs,ha,y⟩:=h.obj _ _ i;rw[Y]at x;cases x;rw[zhJ b]at y;have:=y.ints_eq;subst this;have hd:=zkO n;let⟨c2,w3⟩:=zdH r;refine⟨a,n,rfl,SqL.of ha,by lia,λA j o so=>⟨A,o,_,rfl,zag,so,by lia,λl hl=>?_⟩⟩;have i:Ext g u g (upd u A (.frz o (.own 0))):=Ext.new j _;exact q _ _ (Lf.up (L.trans i) (Lf.lst (h.new j _) hl (RVs.ints _) w3))|_=>exact nS b
 |_=>exact nS b
 exact r.elim
end
section
variable[Mks]{X:Cx}
def zoT:∀{ns:List Int}{M:Int},M∈ns->(∀a∈ns,M<=a)->minZ ns=Φ M
 | [],M,h,_=>by cases h| x::ns,M,h,hl=>by
  unfold minZ;cases e:minZ ns with
  |none=>
   have:ns=[]:=by cases ns with|nil=>rfl|cons y r=>unfold minZ at e;cases h:minZ r<;>rw[h]at e<;>cases e
   subst this;simp![mem_singleton]at h;rw[h]
  |some k=>
   have hk:k∈ns/\∀a∈ns,k<=a:=minZ_is ns k e;dsimp only;congr 1;rcases mem_cons.mp h with z|z;subst z;have:=hl k (Μ _ hk.1);rw[if_pos this]
   . have h1:=hk.2 M z;have h2:=hl k (Μ _ hk.1);have h3:=hl x Ν;split<;>omega
where
 minZ_is:∀(ns:List Int)(k:Int),minZ ns=Φ k->k∈ns/\∀a∈ns,k<=a
 | [],k,h=>by cases h| x::ns,k,h=>by
  unfold minZ at h;cases e:minZ ns with
  |none=>
   rw[e]at h;cases h;have:ns=[]:=by cases ns with|nil=>rfl|cons y r=>unfold minZ at e;cases h:minZ r<;>rw[h]at e<;>cases e
   subst this;exact⟨Ν,λa ha=>by simp![mem_singleton]at ha;omega⟩
  |some j=>rw[e]at h;let⟨h1,h2⟩:=minZ_is ns j e;dsimp only at h;split at h;rename_i c;cases h;exact⟨Ν,λa ha=>by rcases mem_cons.mp ha with z|z;omega;have:=h2 a z;omega⟩;rename_i c;cases h;exact⟨Μ _ h1,λa ha=>by rcases mem_cons.mp ha with z|z;omega;exact h2 a z⟩
def zoS(hc:X.calm=Γ):zbi X (.builtin "min") (λxs H Q=>∃(a:Addr) (ns:List Int) (M:Int),xs=[.ref a]/\SqL X.K H a (ns.map V.int)/\minZ ns=Φ M/\Q (.int M) H):=by
 intro pins s σ H xs us Q I r h;let⟨a,ns,M,rfl,hq,hM,q⟩:=h;let⟨u,rfl,ru⟩:=r.one;cases(show u=Ξ.ref a from ru);let⟨its,rv,pl,_⟩:=I.list hq;have hi:=zes rv;let⟨ys,e⟩:=hi.allInts.items;have hns:ns=ys.toList.map (·.1):=by rw[<-hi.numsOf,<-nums_intItems,<-e]
 have hne:0<ns.length:=by
  cases ns with
  |nil=>cases hM
  |cons _ _=>simp
 have hsz:0<ys.size:=by have h3:=hne;rw[hns,length_map,length_toList]at h3;exact h3
 refine min_intList (I.ok.hd hc) (by rw[<-e];exact pl.isList) hsz λv h' tk hv hk=>?_;let⟨t,rfl⟩:=intItems_at hv;let⟨h1,h2⟩:=argBest_lt (numAt ys) (ys.size-1);have hM':minZ ns=_:=zoT (M:=numAt ys (argBest (λi j=>decide (numAt ys i<numAt ys j)) (ys.size-1))) (by
  rw[hns,numAt_eq];exact getD_mem (by rw[length_map,length_toList];omega)) λa ha=>by
  rw[hns]at ha;let⟨j,hj,rfl⟩:=mem_getD ha;rw[length_map,length_toList]at hj;rw[<-numAt_eq];exact h2 j (by omega)
 rw[hM]at hM';cases hM';exact⟨.int _,H,I.kept hk,⟨t,rfl⟩,q⟩
variable{T:Tab}{cf:CF}{k:Nat}{N:List Str}{sc:Scope}{pos p:Pos}
def zsC:bootBuiltins "min"=Φ (.builtin "min"):=by rfl
def znY(G:Gd T cf k N sc X)(h:Gl X "min"/\X.mg "min"=Ψ)(n:PE X e (tE X.K cf o))(c:zai e=Γ):
  PE X (.Call (.Name "min" p) [e] [] pos) (tE X.K cf (.min1 o)):=by
 refine PE.imp (zbl (zoS G.calm) h.1 h.2 zsC (zaP n c) (by decide) (by decide) (zah c [] X.env)) λY H Qv z=>?_;let⟨δ,ι,S,Q,r,s,w,q⟩:=z;change W (Out.bind _ _) _ at w;simp![zab] at w;refine tE.run r s w λd v t H1 u x y f A B=>?_;let⟨i,b,C⟩:=zau B;unfold lstI at b;cases d with
 |ref l=>
  let⟨a,E,rfl⟩:=A;dsimp only at b;cases g:u.get l with
  |none=>rw[g]at b;exact nS b
  |some I=>rw[g]at b;cases I with| lst J=>let⟨a',j,zs,L,m⟩:=f.obj _ _ g;rw[E]at j;cases j;rw[zhJ b]at m;have:=m.ints_eq;subst this;let⟨M,O,U⟩:=zau C;exact⟨a,i,M,rfl,SqL.of L,O,q _ _ (Lf.up x (Lf.of (d:=.int M) f rfl U))⟩|_=>exact nS b
 |_=>exact nS b
end
section
variable{prog:Ο}{w:ϋ}{A:ϐ}{E:Ξ->Ζ->Prop}{s:Ζ}{a:Addr}{kvs:List (Key×Ξ)}{ep:Nat}
def zph(f:s.TypeIs (.ref d) "dict")(h:Q Δ s):wpAny (model prog w) A (Builtin.List.listLengthHint (.ref d)) Q E s:=by
 refine Θ (wpAny_specialOf f F.slot_dict_len.lookup ?_);generalize e:("dict.__len__":String)=g
 wp_delta
 subst e;refine Θ (wpAny_isInstance f isSubtype_dict_dict ?_);refine wpAny_ite_split (λc=>absurd c (by decide)) (λ_=>?_);refine wpAny_ite_split (λ_=>?_) (λc=>absurd (by decide +kernel) c);exact Θ (wpAny_typeOf f (Ω h))
def ziC(O:A.handled=Ψ)(y:(a==sysModules)=Δ)(g:s.heap.DictAt (zat prog w) a kvs ep)(hz:kvs.length<=sizeLine)(S)(j:S≠a)(res)(m)(hS:s.heap.get? S=Φ {cls:=.type "list",data:=.seq #[] m})(Q:∀h' U h c,(∀b o,b≠S->s.heap.get? b=Φ o->h'.get? b=Φ o)->h'.get? S=Φ {cls:=.type "list",dict:=Ψ,data:=.seq h c,slots:=#[]}->ItemsOf (λi v=>∃k x,kvs[i]?=Φ (k,x)/\(zat prog w).is k v=Γ) h kvs.length->R (.ok (.ret res)) {s with heap:=h',toks:=U}):
  wpAny (model prog w) A.in1 (Builtin.List.listExtendWith (.ref S) (.ref a) res)
   (λfin s'=>match fin with|.done f=>R (.ok f) s'|.again L=>L.quiet=Γ/\codeAny (model prog w) A L R s') (λe s'=>R (.error e) s') s:=by
 have B:=Β hS;have C:=g.lt_size;unfold Builtin.List.listExtendWith;refine Θ (wpAny_typeOf (T:="dict") g.dictOf.typeIs ?_);rw[if_neg (by simp[Builtin.List.listSameRef,j])];refine Θ (wpAny_pyIter_dict y g ?_);have n:=g.push {cls:=.type "dict_keyiterator",data:=.fields #[.ref a,.int 0 0,.int kvs.length 0,.int ep 0]};have p:=Λ {cls:=.type "dict_keyiterator",data:=.fields #[.ref a,.int 0 0,.int kvs.length 0,.int ep 0]} hS;have G:(s.heap.push {cls:=.type "dict_keyiterator",data:=.fields #[.ref a,.int 0 0,.int kvs.length 0,.int ep 0]}).get? s.heap.objs.size=_:=Ι _ rfl;have q:∀b o,s.heap.get? b=Φ o->(s.heap.push {cls:=.type "dict_keyiterator",data:=.fields #[.ref a,.int 0 0,.int kvs.length 0,.int ep 0]}).get? b=Φ o:=λb o e=>Λ _ e;generalize s.heap.push {cls:=.type "dict_keyiterator",data:=.fields #[.ref a,.int 0 0,.int kvs.length 0,.int ep 0]}=u at *;refine Θ (ϓ (zph (s:={s with heap:=u}) n.dictOf.typeIs ?_));rw[if_pos (by decide +kernel)];refine Θ (wpAny_rule (Θ ?_));show wpAny _ _ (updateSeq S (·.push .none)>>=λ_=>updateSeq S (·.pop)) _ _ _;refine Θ (wpAny_updateSeq (s:={s with heap:=u}) p rfl ?_);have d:=ϑ (Obj.mapSeq (·.push Ξ.none)) p rfl;refine wpAny_updateSeq (hz:=by seq_fits) d rfl ?_;have l:=ϑ (Obj.mapSeq (·.pop)) d rfl;have H:∀b o,b≠S->u.get? b=Φ o->((u.update S (Obj.mapSeq (·.push Ξ.none))).update S (Obj.mapSeq (·.pop))).get? b=Φ o:=λb o r e=>(Ρ _ _ (Ne.symm r)).trans ((Ρ _ _ (Ne.symm r)).trans e);have M:S≠s.heap.objs.size:=ne_of_lt B;have W:=(Walks.dictKeys (prog:=prog) (w:=w) (A:=A.in1) (knd:=zat prog w) O s.heap.objs.size a (ne_of_lt C) kvs ep).toS;have I:S∉[s.heap.objs.size,a]:=λg=>by simp![mem_cons,not_mem_nil,or_false]at g;rcases g with z|z;exact M z;exact j z
 refine Ω ⟨plainId_quiet PySem.F.plain_extend_loop _,codeAny_extend_loopS W hz S I res kvs.length 0 _ #[] _ rfl (zero_le _) ?_ l (ItemsOf.nil _) λs' h c N J t=>?_⟩;exact⟨⟨_,H _ _ (Ne.symm M) G,rfl,rfl⟩,n.at' λo e=>H _ _ (Ne.symm j) e⟩;rw[Moved.eq_with N];refine Q s'.heap s'.toks h c (λb o r e=>N.heap b o (λg=>?_) (H b o r (q _ _ e))) J t;simp![mem_cons,not_mem_nil,or_false]at g;rcases g with z|z;exact r z;exact ne_of_lt (Β e) z
def zdg{P:List Ξ->Prop}(C:a<s.heap.objs.size)(n:∀(R:Result->Ζ->Prop)(t:Ζ),t={s with heap:=s.heap.push {cls:=.type "list",data:=.seq #[]}}->
   (∀h' j p c,(∀b o,b≠s.heap.objs.size->t.heap.get? b=Φ o->h'.get? b=Φ o)->h'.get? s.heap.objs.size=Φ {cls:=.type "list",dict:=Ψ,data:=.seq p c,slots:=#[]}->P p.toList->R (.ok (.ret (.ref s.heap.objs.size))) {t with heap:=h',toks:=j})->
   wpAny (model prog w) A.in1 (Builtin.List.listExtendWith (.ref s.heap.objs.size) (.ref a) (.ref s.heap.objs.size))
    (λfin s'=>match fin with|.done f=>R (.ok f) s'|.again k=>k.quiet=Γ/\codeAny (model prog w) A k R s') (λe s'=>R (.error e) s') t)(h:∀(h':Heap)(j:Nat)(m:List Ξ),(∀b o,s.heap.get? b=Φ o->h'.get? b=Φ o)->s.heap.objs.size<h'.objs.size->P m->z m {s with heap:=h',toks:=j}):
  wpAny (model prog w) A (collect (.ref a)) z E s:=by
 refine Θ (wpAny_runValue (ϝ PySem.F.entry_proto_collect ?_));refine Θ (ό ?_);refine Ω ⟨plainId_quiet PySem.F.plain_list_iadd _,ϝ PySem.F.entry_list_iadd ?_⟩;have n:=n (λ(q:Result) (s':Ζ)=>∃(h':Heap) (j:Nat) (d:Array Ξ) (k:Nat),q=.ok (.ret (.ref s.heap.objs.size))/\s'={s with heap:=h',toks:=j}/\
   (∀b o,s.heap.get? b=Φ o->h'.get? b=Φ o)/\h'.get? s.heap.objs.size=Φ {cls:=.type "list",dict:=Ψ,data:=.seq d k,slots:=#[]}/\P d.toList) _ rfl
  (λh' j d k r i g=>⟨h',j,d,k,rfl,rfl,λb o e=>r b o (ne_of_lt (Β e)) (Λ _ e),i,g⟩)
 refine Τ n (λfin s' x=>?_) λe s' x=>?_;cases fin with| done f=>let⟨h',j,d,k,e,rfl,r,i,g⟩:=x;cases e;exact Θ (wpAny_load i (Ω (h h' j _ r (Β i) g)))| again u=>refine⟨x.1,ϕ x.2 λq v y=>?_⟩;let⟨h',j,d,k,rfl,rfl,r,i,g⟩:=y;exact Θ (wpAny_load i (Ω (h h' j _ r (Β i) g)))
 let⟨_,_,_,_,B,_⟩:=x;cases B
def zhC{prog:Ο}{w:ϋ}:∀{ks:List Int}{vs:List (Key×Ξ)}{us:List Ξ},vs.map (·.1)=ks.map Sum.inl->us.length=vs.length->(∀(i:Nat)(v:Ξ),us[i]?=Φ v->∃k x,vs[i]?=Φ (k,x)/\(zat prog w).is k v=Γ)->IntsAre us ks
 | [],[],us,_,b,_=>by cases us with|nil=>exact .nil|cons _ _=>simp at b
 | [],_::_,_,h,_,_=>by simp at h|_::_,[],_,h,_,_=>by simp at h| k::ks,(n,x)::vs,us,h,b,d=>by cases us with|nil=>simp at b| cons u us=>simp![Υ,List.cons.injEq]at h;let⟨rfl,h⟩:=h;let⟨g,j,l,m⟩:=d 0 u rfl;cases(show(Sum.inl k,x)=(g,j) from Option.some.inj l);rcases zaB (show zfN (Sum.inl k) u=Γ from m) with⟨i,t,c,f⟩|⟨y,t,c,f⟩;cases c;subst f;exact .cons _ _ (zhC h (by simpa using b) λi v e=>d (i+1) v (by simpa using e));cases c
end
def zlv(it:us.length=n/\∀(j:Nat)(v:Ξ),us[j]?=Φ v->∃t,v=Ξ.int (0+(j:Int)*1) t):Vals ((List.range n).map λ(j:Nat)=>V.int j) us:=by
 let⟨c,f⟩:=it;induction n generalizing us with
 |zero=>cases us with
  |nil=>exact .nil|cons _ _=>simp at c
 |succ n g=>
  have a:us≠[]:=by intro z;subst z;simp at c
  have d:=(List.dropLast_concat_getLast a).symm;rw[List.range_succ,map_append,d];have b:us.dropLast.length=n:=by simp[c]
  refine Vals.append (g b λj v e=>f j v ?_) (.cons ?_ .nil);have h:=(Α.mp e).1;rw[d,getElem?_append_left h];exact e;let⟨t,e⟩:=f n (us.getLast a) (by
   conv=>lhs;rw[d]
   simp[b])
  exact⟨t,by simpa using e⟩
section
variable{prog:Ο}{w:ϋ}{A:ϐ}{E:Ξ->Ζ->Prop}{s:Ζ}
def zeb{n:Nat}(L:A.handled=Ψ)(l:IsRange s.heap r a b c t u v)(f:Builtin.Range.small a b c=Γ)(M:Builtin.Range.rangeSize a b c=n)(g:n<=16777216)(h:∀(h':Heap)(k:Nat)(d:List Ξ),(∀b o,s.heap.get? b=Φ o->h'.get? b=Φ o)->(d.length=n/\∀(i:Nat)(x:Ξ),d[i]?=Φ x->∃t,x=.int (a+i*c) t)->Q₁ (.ref h'.objs.size) {s with heap:=h'.push {cls:=.type "tuple",data:=.seq d.toArray},toks:=k}):
  codeAny (model prog w) A (.call (.builtin "tuple.__new__") ⟨[.type "tuple",.ref r],[]⟩) (wants Q₁ E) s:=by
 refine codeAny_of_tree ?_;show wpAny _ A.in1 (do checkBuiltinCall "tuple.__new__" ⟨[.type "tuple",.ref r],[]⟩;again (.builtin "tuple.__new__" ⟨[.type "tuple",.ref r],[]⟩)) _ _ s;refine Θ (wpAny_of_eq (F.newCall_tuple_1 _) (Ω ⟨plainId_quiet F.plain_tuple_new _,ϝ F.entry_tuple_new ?_⟩));rw[ϐ.under_plainId F.plain_tuple_new _];have H:=sub_tuple_self;have m:=init_tuple_lookup;have N:=madeHere_tuple;have p:s.TypeIs (.ref r) "range":=⟨_,l,rfl⟩;have q:∀{A':ϐ}{y:List Ξ->Ζ->Prop}{I:Ξ->Ζ->Prop},A'.handled=Ψ->(∀(h':Heap)(k:Nat)(d:List Ξ),(∀b o,s.heap.get? b=Φ o->h'.get? b=Φ o)->s.heap.objs.size<h'.objs.size->(d.length=n/\∀(i:Nat)(x:Ξ),d[i]?=Φ x->∃t,x=.int (a+i*c) t)->y d {s with heap:=h',toks:=k})->wpAny (model prog w) A' (collect (.ref r)) y I s:=by intro A' y I z O;refine zdg (Β l) (λR s1 Q B=>?_) O;subst Q;exact wpAny_extend_range z (Λ _ l) f M g _ _ 0 (Ι _ rfl) λh' k C T U G j=>B h' k C T U G ⟨by rw[length_toList];exact j.1,λi x e=>j.2 i x (by simpa using e)⟩
 wp_walk using wpAny_typeOf p,q (A':=A.in1) L
 intro h' k d Y hlt J;show wpAny _ _ (Builtin.Tuple.tupleExact d.toArray>>=λv=>ret v) _ _ _;unfold Builtin.Tuple.tupleExact;refine Θ (ό ?_ (by show d.toArray.size<=sizeLine;rw[size_toArray,J.1,Χ];exact g));refine Ω ?_;exact h h' k d Y J
end
section
variable[Mks]{X:Cx}
def zie(hc:X.calm=Γ):zbi X (.builtin "sorted") (λxs H Q=>∃(a:Addr) (ws:List (Key×V)) (ns:List Int),xs=[.ref a]/\H a=Φ (.dK ws)/\ws.map (·.1)=ns.map Sum.inl/\ns.length<64/\∀p,H p=Ψ->Q (.ref p) (upd H p (.lst ((zaq ns).map V.int)))):=by
 intro Y s σ H xs us Q I r h;let⟨a,ws,ns,rfl,hf,z,B,q⟩:=h;let⟨u,rfl,ru⟩:=r.one;cases(show u=Ξ.ref a from ru);let⟨hz,C,vs,E,k⟩:=zmw I.hok hf;let⟨ep,k⟩:=k.dictAt;have hA:=I.ok.hd hc;have n:vs.map (·.1)=ns.map Sum.inl:=by
  rw[<-z];have:∀{l:List (Key×V)}{m:List (Key×Ξ)},KV l m->m.map (·.1)=l.map (·.1):=by intro l m q;induction q with|nil=>rfl|cons h _ ih=>rw[Υ,Υ,h.1,ih]
  exact this E
 have G:vs.length=ns.length:=by have:=congrArg List.length n;simpa using this
 refine Calls.call_function_entry kind_sorted plain_sorted entry_sorted (args_sorted1 _) ?_;refine Θ (Ω ?_);refine Θ (zdg (P:=λus=>IntsAre us ns) k.lt_size (λR s1 x hR=>?_) λy J d kp L f=>?_);subst x;have M:=k.lt_size;refine ziC (A:=X.A.in1) hA C (k.push _) (by rw[Χ];lia) _ (ne_of_gt M) _ 0 (Ι _ rfl) λh' J N c hk O g=>hR h' J N c hk O ?_;exact zhC n (by exact g.1) λi v e=>g.2 i v (by simpa using e);have t:d.length<64:=by rw[f.length];exact B
 refine Θ (wpAny_newList ?_ (by rw[Χ];lia));have j:(y.push (seqObj "list" d.toArray 0)).get? y.objs.size=Φ (seqObj "list" d.toArray 0):=Ι _ rfl;refine Θ (ϓ (ϗ slot_list_sort ⟨_,j,rfl⟩ entry_list_sort (list_sort_tree j f t λout T a1 a2 a3=>⟨_,rfl,?_⟩) (args_list_sort _)));have w:=le_of_lt L;have en:=zcF (a2.trans (zas ns).symm) a3 (zaR ns);subst en;let⟨c,U⟩:=sortedHeap_at j;refine Ω ⟨_,rfl,.ref y.objs.size,_,zkp (s:=s) (o:=.lst ((zaq ns).map V.int)) I (λb u e=>?_) w ⟨?_,out.toList,c,zck a1,?_⟩,rfl,q _ (I.hok.fresh w)⟩;have x:=kp b u e;have l1:=Β x;rw[sortedHeap_old (ne_of_lt l1) (Nat.lt_of_lt_of_eq (ϡ l1) (ϔ ..).symm)];exact Λ _ x;rw[length_map,(zas ns).length_eq,Χ];lia;exact U
variable{T:Tab}{cf:CF}{k:Nat}{N:List Str}{sc:Scope}{pos p p2 pos':Pos}
def zn5(G:Gd T cf k N sc X)(m:Gl X "sorted"/\X.mg "sorted"=Ψ)(o:PE X e (tE X.K cf r))(f:zai e=Γ):
  PE X (.Call (.Name "sorted" p) [e] [] pos) (tE X.K cf (.dsrt r)):=by
 refine PE.imp (zbl (zie G.calm) m.1 m.2 zgh (zaP o f) (by decide) (by decide) (zah f [] X.env)) λσ H Qv z=>?_;let⟨δ,ι,S,Q,s,t,w,q⟩:=z;change W (Out.bind _ _) _ at w;simp![zab] at w;refine tE.run s t w λd v u H1 x y A g B C=>?_;let⟨E,b,h⟩:=zau C;unfold dicI at b;cases d with
 |ref l=>
  let⟨a,I,rfl⟩:=B;dsimp only at b;cases i:x.get l with
  |none=>rw[i]at b;exact nS b
  |some J=>rw[i]at b;cases J with| dic j=>let⟨a',n,nd,L,M,O⟩:=g.obj _ _ i;rw[I]at n;cases n;cases(show Φ (j.map (·.1))=Φ E from b);split at h;rename_i c;let⟨c2,U⟩:=zdH h;exact⟨a,L,_,rfl,M,by rw[O.keys,ϒ];rfl,c,λl Y=>q _ _ (Lf.up y (Lf.lst g Y (RVs.ints _) U))⟩;exact h.elim|_=>exact nS b
 |_=>exact nS b
def zn7(ha:PE X a (tE X.K cf U))(B:PE X b (tE X.K cf Y)):PE X (.Dict [Φ a] [b] pos) (tE X.K cf (.dic1 U Y)):=by
 refine PE.imp (zoF (zlL ha B zoy) rfl rfl (by simp) (by simp)) λσ H Qv j=>?_;let⟨δ,C,S,Q,hs,hh,w,q⟩:=j;change W (Out.bind _ _) _ at w;simp![zab] at w;intro p A;have x0:Ext C H C (upd H p (.dK [])):=Ext.new A _;have i:=hh.fresh A;refine tE.run (hs.ext x0) (hh.new A (.dK [])) w λd v ι1 H1 S1 x1 E G r1 w1=>?_;refine tE.run E G w1 λy n f r I x2 hs2 c r2 w2=>?_;let⟨k,hk,w3⟩:=zau w2;cases d with
 |int k'=>
  cases(show Φ k'=Φ k from hk);obtain rfl:v=.int k:=r1;have m:=x1.trans x2;have g:=m.keep i zag (by intro J z;cases z);have pn:=(m.rest p _ i zag).2;refine⟨g,[(.inl k,n)],rfl,by simp,?_⟩;have h:Kp r (upd r p (.dK (zcZ [] [((.inl k:Key),n)]))):=by refine .same (λb xs e=>?_) (λb o u e=>?_) λb J e=>?_;rw[zaf (by intro z;rw[z,g]at e;cases e)];exact e;rw[zaf (by intro z;rw[z,g]at e;cases e)];exact e;rw[zaf (by intro z;rw[z,g]at e;cases e)];exact e
  have xe:Ext C H (f++[p]) (upd r p (.dK (zcZ [] [((.inl k:Key),n)]))):=by
   have x:=x0.trans m;refine⟨x.pre.trans (ύ _ _),x.kp.trans h,λb o B e=>?_⟩;have L:b≠p:=by intro z;rw[z,A]at e;exact nS e
   let⟨s,M⟩:=x.rest b o B e;refine⟨?_,λz=>?_⟩;rcases s with s|⟨t,J,s⟩;exact .inl (by rw[zaf L];exact s);exact .inr ⟨t,J,by rw[zaf L];exact s⟩;rcases mem_append.mp z with z|z;exact M z;exact L (mem_singleton.mp z)
  have O:RH X.K f (upd r p (.dK (zcZ [] [((.inl k:Key),n)]))) I:=⟨c.len,c.nd,λl o e=>let ⟨b,M,h2,hm⟩:=c.mem e;⟨b,M,h2.up (ϛ _) h (zaf λz=>pn (z▸hm))⟩,h.tab c.tab⟩;exact q _ _ ⟨.ref I.len,f++[p],I.push (.dic [(k,y)]),xe,⟨p,c.last p,rfl⟩,O.one (l:=0) pn ⟨by simp,_,zag,n,[],rfl,r2.up (ύ _ _) h,rfl⟩,w3⟩
 |_=>exact nS hk
def zi3(A:X.calm=Γ):zbi X (.type "tuple") (λxs H Q=>∃p d,xs=[.ref p]/\H p=Φ (.rng 0 d)/\-(2^62)<=d/\d<2^62/\d.toNat<=16777216/\∀l,H l=Ψ->Q (.ref l) (upd H l (.tup ((List.range d.toNat).map λ(j:Nat)=>.int j)))):=by
 intro g s m H xs U Q I r h;let⟨p,d,rfl,B,C,E,n,q⟩:=h;let⟨u,rfl,G⟩:=r.one;cases(show u=Ξ.ref p from G);let⟨t,Y,t3,e⟩:=(show ObjOk X.prog X.w H s.heap p (.rng 0 d) from I.hok p _ B);have J:=I.ok.hd A;have L:Builtin.Range.rangeSize 0 d 1=(d.toNat:Nat):=by rw[rangeSize_one];split<;>lia
 refine callType_codes (Q₁:=λf a=>a.TypeIs f "tuple"/\∃v w,Inv X g m w a/\RelV v f/\Q v w) F.called_tuple (F.typeCall_tuple_1 _) F.entry_object_init ?_ λf a c=>?_;refine zeb J e (small_one (by decide) (by decide) C E) L n λx y i M O=>⟨⟨_,Ι _ rfl,rfl⟩,?_⟩;have z:Inv X g m H {s with heap:=x,toks:=y}:=I.kept M;refine⟨.ref x.objs.size,_,z.laid (o:=.tup ((List.range d.toNat).map λ(j:Nat)=>.int j)) (λb o e=>Λ _ e) (le_refl _) ⟨?_,i,zlv O,IsTup.new _ _⟩,rfl,q _ (z.hok.fresh (le_refl _))⟩;rw[length_map,List.length_range];exact n;exact⟨c.1,F.args_object_init_2 f _,object_init_meets F.called_tuple.init.lookup F.called_tuple.made (by decide) X.prog X.w X.A.in1 _ a ⟨c.1,rfl,c.2⟩⟩
def zlm(G:Gd T cf k N sc X)(o:Gl X "tuple"/\X.mg "tuple"=Ψ)(r:Gl X "range"/\X.mg "range"=Ψ)(t:PE X a (tE X.K cf u))(e:zai a=Γ):
  PE X (.Call (.Name "tuple" p) [.Call (.Name "range" p2) [a] [] pos'] [] pos) (tE X.K cf (.mkT (.rng1 u))):=by
 have g:=zbg (p:=p2) (pos:=pos') zfx r.1 r.2 zh4 (zaP t e) (by decide) (by decide) (zah e [] X.env);refine PE.imp (zbg (zi3 G.calm) o.1 o.2 zfh (zaP g rfl) (by decide) (by decide) rfl) λL H M z=>?_;let⟨O,ι,S,Q,x,y,w,q⟩:=z;change W (Out.bind (Out.bind _ _) _) _ at w;simp![zab]at w;refine tE.run x y w λd v h A U B C i E b=>?_;cases d with| int j=>obtain rfl:v=.int j:=E;dsimp only at b;split at b;rename_i c;rw[W_ok]at b;split at b;rename_i I;refine⟨j,rfl,λs f=>⟨s,j,rfl,zag,c.1,c.2,by simpa using I,λl J=>?_⟩⟩;have n:=i.new f (.rng 0 j);refine q _ _ (Lf.up (B.trans (Ext.new f _)) (Lf.tup n J ?_ b));have:=RVs.ints (K:=X.K) (ι:=h) (H:=upd A s (.rng 0 j)) ((List.range j.toNat).map λ(m:Nat)=>(m:Int));rw[ϒ,ϒ]at this;exact this;exact b.elim;exact b.elim|_=>exact b.elim
end
end R
namespace R
open PySem PySem.W PyProof.Rows
section
variable{n:Nat}{cmp:Nat->Nat->(Bool->Ζ->Prop)->Ζ->Prop}{s:Ζ}
def zq3(h:i<n):(List.range n).toArray.getD i 0=i:=by simp[h]
variable(hc:∀i j (C:Bool->Ζ->Prop),i<n->j<n->C (decide (i<j)) s->cmp i j C s)
include hc
def znn{Q:Nat->Ζ->Prop}(q:Q n s):∀(f a:Nat),1<=a->a+f=n->(kas_asc (List.range n).toArray f a).kasWp cmp Q s
 |0,a,_,e=>by subst e;exact q| f+1,a,c,e=>by show cmp ((List.range n).toArray.getD a 0) ((List.range n).toArray.getD (a-1) 0) (λb s=>(if b=Γ then KasT.ret a else kas_asc (List.range n).toArray f (a+1)).kasWp cmp Q s) s;rw[zq3 (by lia),zq3 (by lia)];refine hc _ _ _ (by lia) (by lia) ?_;rw[if_neg (by simp)];exact znn q f (a+1) (by lia) (by lia)
def znN(a:1<=n){Q:Array Nat->Ζ->Prop}(q:Q (List.range n).toArray s):(kas_sort n).kasWp cmp Q s:=by unfold kas_sort;rw[KasT.kasWp_bind];unfold kas_count;rw[KasT.kasWp_bind];refine znn hc ?_ (n-1) 1 (le_refl _) (by lia);simp![beq_self_eq_true];show(if n<n then kas_bin (n-max n 1) _ (max n 1) else KasT.ret _).kasWp cmp Q s;rw[if_neg (by lia)];exact q
end
end R
namespace R
open PySem PySem.Spec PyProof.Rows L2
def zj5:∀(as bs:List Int),lexZ as bs=HT.lexLt as bs
 | [],[]=>by simp[lexZ,HT.lexLt]| [],_::_=>by simp[lexZ,HT.lexLt]|_::_,[]=>by simp[lexZ,HT.lexLt]|a::as,b::bs=>by simp[lexZ,HT.lexLt,zj5 as bs]
section
variable{prog:Ο}{w:ϋ}{A:ϐ}{E:Ξ->Ζ->Prop}{s:Ζ}
def zi4(x:IsTupleKey (zat prog w) h (ks.map Sum.inl) b):∃items,IsTup h b items/\IntsAre items.toList ks:=by
 let⟨o,items,n,e,f,g,j⟩:=x;refine⟨items,⟨o,e,f,n,g⟩,?_⟩;have:∀{l:List Int}{a:List Ξ},ItemsAre (zat prog w) (l.map Sum.inl) a->IntsAre a l:=by intro l;induction l with|nil=>intro a h;cases h;exact .nil| cons x l k=>intro a h;cases h with| @cons _ v _ a m p=>rcases zaB (show zfN (Sum.inl x) v=Γ from m) with⟨i,t,c,d⟩|⟨y,t,c,d⟩;cases c;subst d;exact .cons _ _ (k p);cases c
 exact this j
end
end R
namespace R
open PySem PySem.Spec PyProof.Rows L2
variable[Mks]
section
variable{T:Tab}{cf:CF}{k:Nat}{N:List Str}{sc:Scope}{X:Cx}{pos p p2 pos':Pos}
def zn4(Y:PE X o (tE X.K cf ca))(he:PE X e (tE X.K cf cb))(g:zai e=Γ)(i:zaN o=Γ)(hl:(j.endLine==n.line)=Γ):
  PE X (.Call (.Attribute o "extend" j) [e] [] n) (tE X.K cf (.extv ca cb)):=by
 refine PE.imp (zru PySem.F.plainAttrs_list PySem.F.slot_list_extend PySem.F.type_list_extend zjV Y (zaP he g) (zbE i "extend" X.env _) (by rw[zah g];rfl) hl (zah g [] X.env)) λσ H Qv z=>?_;let⟨δ,ι,S,Q,hs,hh,w,q⟩:=z;change W (Out.bind _ _) _ at w;simp![zab] at w;refine tE.run hs hh w λd v ι1 H1 S1 x1 u r B t=>?_;split at t;rename_i c;refine⟨zna r B c,?_⟩;rw[zab]at t;refine tE.run u r t λy vy ι2 H2 C E hs2 h r2 G=>?_;rw[zab]at G;let⟨o,f,w3⟩:=zau G;unfold lsts at f;cases d with
 |ref l=>
  cases y with
  |ref m=>
   let⟨a,I,rfl⟩:=B.ext E;let⟨b,h2,rfl⟩:=r2;dsimp only at f;cases s:C.get l with
   |none=>rw[s]at f;exact nS f
   |some J=>
    cases x:C.get m with
    |none=>rw[s,x]at f;cases J<;>exact nS f| some A=>
     rw[s,x]at f;cases J with
     |lst xs=>cases A with| lst ys=>cases f;let⟨a',L,zs,ha,M⟩:=h.obj _ _ s;rw[I]at L;cases L;let⟨b',O,us,hb,U⟩:=h.obj _ _ x;rw[h2]at O;cases O;let⟨c2,S',hp,w4⟩:=zpT w3;refine⟨a,b,zs,us,rfl,rfl,ha,hb,?_,q _ _ (Lf.up (x1.trans E) (Lf.wr (d:=.non) h s I hp (M.append U) rfl w4))⟩;rw[M.length,U.length,<-length_append];exact c2|_=>exact nS f
     |_=>exact nS f
  |_=>exact nS f
 |_=>exact nS f
 exact t.elim
end
structure Ltr(K:PySem.W.Frag)(ι:List Addr)(H:Hp)(S:R.St)(lks:List Nat)(ι2:List Addr)(H2:Hp)(S2:R.St):Prop where
 ext:Ext ι H ι2 H2
 rh:RH K ι2 H2 S2
 lck:∀l∈lks,S2.get l=S.get l
structure Wk(K:PySem.W.Frag)(J:It)(ds:List D)(lks:List Nat)(ι:List Addr)(H:Hp)(S:R.St):Prop where
 go:∀(i:Nat)(ι2:List Addr)(H2:Hp)(S2:R.St),Ltr K ι H S lks ι2 H2 S2->i<ds.length->J.go i H2
 yld:∀(i:Nat)(ι2:List Addr)(H2:Hp)(S2:R.St)(x:V)(H':Hp),Ltr K ι H S lks ι2 H2 S2->i<ds.length->J.yld i H2 x H'->Ext ι2 H2 ι2 H'/\RH K ι2 H' S2/\∃d,ds[i]?=Φ d/\RV K ι2 H' d x
 stop:∀(i:Nat)(ι2:List Addr)(H2:Hp)(S2:R.St),Ltr K ι H S lks ι2 H2 S2->ds.length<=i->J.stop i H2
 lks:∀l∈lks,l<S.len
abbrev LfI(K:PySem.W.Frag)(ι:List Addr)(H:Hp)(Q:List D×List Nat->R.St->Prop)(J:It)(H':Hp):Prop:=∃d b a c,Ext ι H a H'/\RH K a H' c/\Q (d,b) c/\Wk K J d b a H' c
abbrev tI(K:PySem.W.Frag)(cf:CF)(cl:CL):TI:=λd H R=>∃b a S Q,RS K a H b d/\RH K a H S/\W (evL cf cl b S) Q/\∀J c,LfI K a H Q J c->R J c
def PI.imp(h:PI X c e t)(i:∀a H Q,t' a H Q->t a H Q):PI X c e t':=λb s a H Q I q=>h b s a H Q I (i a H Q q)
abbrev iSeq(K:PySem.W.Frag)(tl:TE):TI:=λd H R=>tl d H λx b=>∃a,x=.ref a/\(((∃c,SqL K b a c)/\R (Itl K a) b)\/((∃c,SqT K b a c)/\R (Itt K a) b))
section
variable{T:Tab}{cf:CF}{k:Nat}{N:List Str}{sc:Scope}{X:Cx}{pos p:Pos}{tg:Expr}
def zrh(t:PE X l tl):PI X tg l (iSeq X.K tl):=by
 intro f s u H R I h;refine thn (t f s u H _ I h) λv c z=>?_;let⟨x,r,d,w,i⟩:=z;let⟨a,rfl,i⟩:=i;cases w;rcases i with⟨⟨y,j⟩,q⟩|⟨⟨y,j⟩,q⟩;let⟨g,A,m,B⟩:=d.list j;refine wpAny_pyIter_list m.isList ?_;refine⟨c.heap.objs.size,[c.heap.objs.size],_,_,r,rfl,d.kept λb o e=>Λ _ e,zi1 a _,⟨_,Ι _ rfl,rfl,rfl⟩,λb n=>?_,q⟩;have e:b=c.heap.objs.size:=by simpa using n
 subst e;exact d.fpOk (le_refl _) (d.hok.fresh (le_refl _));let⟨g,A,m,B⟩:=d.tuple j;refine wpAny_pyIter_tuple (show c.heap.IsTuple a g.toArray from m) ?_;refine⟨c.heap.objs.size,[c.heap.objs.size],_,_,r,rfl,d.kept λb o e=>Λ _ e,zia a _,⟨_,Ι _ rfl,rfl,rfl⟩,λb n=>?_,q⟩;have e:b=c.heap.objs.size:=by simpa using n
 subst e;exact d.fpOk (le_refl _) (d.hok.fresh (le_refl _))
def zgk{K:PySem.W.Frag}{ι:List Addr}{H:Hp}{S:R.St}{a:Addr}{ds:List D}{lks:List Nat}(o:∀l∈lks,l<S.len)
  (h:∀b c f,Ltr K ι H S lks b c f->∃xs,SqL K c a xs/\RVs K b c ds xs/\∀ys,SqL K c a ys->True):Wk K (Itl K a) ds lks ι H S where
 go:=λi b c f g n=>by let⟨xs,j,m,_⟩:=h b c f g;exact⟨xs,xs[i]'(by rw[m.length];exact n),j,Η _⟩
 yld:=λi b c f x q g n y=>by let⟨xs,j,m,_⟩:=h b c f g;let⟨rfl,y⟩:=y;let⟨d,e,r⟩:=m.get' (y xs j);exact⟨Ext.refl _ _,g.rh,d,e,r⟩
 stop:=λi b c f g n=>by let⟨xs,j,m,_⟩:=h b c f g;exact⟨xs,j,by rw[m.length];exact n⟩
 lks:=o
def zpU{K:PySem.W.Frag}{ι:List Addr}{H:Hp}{S:R.St}{a:Addr}{ds:List D}{lks:List Nat}{xs:List V}(m:∀l∈lks,l<S.len)(e:H a=Φ (.tup xs))(g:RVs K ι H ds xs):Wk K (Itt K a) ds lks ι H S where
 go:=λi c h j b f=>⟨xs,xs[i]'(by rw[g.length];exact f),SqT.of (b.ext.kp.tups _ _ e),Η _⟩
 yld:=λi c h j x n b f y=>by let⟨rfl,y⟩:=y;let⟨d,e,r⟩:=(g.ext b.ext).get' (y xs (SqT.of (b.ext.kp.tups _ _ e)));exact⟨Ext.refl _ _,b.rh,d,e,r⟩
 stop:=λi c h j b f=>⟨xs,SqT.of (b.ext.kp.tups _ _ e),by rw[g.length];exact f⟩
 lks:=m
def zmR(C:PE X e (tL X.K cf cl))(u:∀{δ:Ev}{S:R.St}{Q:List D×List Nat->R.St->Prop},W (evL cf cl δ S) Q->W (evL cf cl δ S) λr S'=>(∀l∈r.2,l<S'.len)/\Q r S'):PI X tg e (tI X.K cf cl):=by refine PI.imp (zrh C) λσ H R z=>?_;let⟨δ,ι,S,Q,E,G,w,q⟩:=z;refine tL.run E G (u w) λm c v d H1 o s I f J i=>?_;let⟨t,i⟩:=i;let⟨a,j,rfl,x,L⟩:=J;refine⟨a,rfl,?_⟩;cases L with|tmp h e=>exact .inl ⟨⟨j,SqL.of e⟩,q _ _ ⟨m,c,d,o,s,f,i,zgk t λn y A g=>⟨j,SqL.of (g.ext.keep h e (by simp)),x.ext g.ext,λ_ _=>trivial⟩⟩⟩|fix e=>exact .inl ⟨⟨j,e.sq⟩,q _ _ ⟨m,c,d,o,s,f,i,zgk t λn y A g=>⟨j,(e.kp g.ext.kp).sq,x.ext g.ext,λ_ _=>trivial⟩⟩⟩|tup e=>exact .inr ⟨⟨j,SqT.of e⟩,q _ _ ⟨m,c,d,o,s,f,i,zpU t e x⟩⟩| own l M O U e=>refine .inl ⟨⟨j,SqL.of e⟩,q _ _ ⟨m,c,d,o,s,f,i,zgk t λn y A g=>?_⟩⟩;let⟨b,B,Y,hz,rz⟩:=g.rh.obj l (.lst m) ((g.lck l M).trans U);rw[zbK g.ext.pre O]at B;cases B;exact⟨Y,SqL.of hz,rz,λ_ _=>trivial⟩
def zrU(h:W (evL cf (.val b) δ S) Q):W (evL cf (.val b) δ S) λr S'=>(∀l∈r.2,l<S'.len)/\Q r S':=by
 change W (Out.bind _ _) _ at h⊢;simp![zab] at h⊢;refine h.mono λx g c=>?_;let⟨i,e,d⟩:=zau c;rw[e];refine⟨λl a=>?_,d⟩;cases x with
 |ref j=>simp[lkOf]at a;subst a;simp![zbe]at e;split at e;rename_i f;exact zak f;exact nS e
 |_=>simp[lkOf]at a
def zo6(h:W (evL cf (.comp n b g it c e) δ S) Q):W (evL cf (.comp n b g it c e) δ S) λr S'=>(∀l∈r.2,l<S'.len)/\Q r S':=by change W (Out.bind _ _) _ at h⊢;simp![zab] at h⊢;refine h.mono λi j d=>d.mono λr m a=>?_;split at a;rename_i c;rw[if_pos c];exact⟨λl f=>by simp at f,a⟩;exact a.elim
def zg4{K:PySem.W.Frag}{ι:List Addr}{H:Hp}{S:R.St}(lo:Int)(n:Nat):Wk K (Itr lo n) ((List.range n).map λ(j:Nat)=>D.int (lo+j)) [] ι H S where
 go:=λi b d e c a=>by show i<n;simpa using a
 yld:=λi b d e x g c a y=>by
  let⟨rfl,rfl⟩:=y;have a:i<n:=by simpa using a
  exact⟨Ext.refl _ _,c.rh,.int (lo+i),by simp[a],rfl⟩
 stop:=λi b d e c a=>by show n<=i;simpa using a
 lks:=λl f=>by simp at f
def znP(i:Gl X "range"/\X.mg "range"=Ψ)(l:PE X a (tE X.K cf m))(f:zai a=Γ):PI X tg (.Call (.Name "range" p) [a] [] pos) (tI X.K cf (.rng1 m)):=by
 refine PI.imp (zjK i.1 i.2 (zaP l f) (zah f [] X.env)) λx H R z=>?_;let⟨y,A,S,Q,n,o,w,q⟩:=z;change W (Out.bind _ _) _ at w;simp![zab] at w;refine tE.run n o w λd v g B r s t h u b=>?_;cases d with
 |int j=>
  obtain rfl:v=.int j:=u;dsimp only at b;split at b;rename_i c;have e:((List.range j.toNat).map λ(k:Nat)=>D.int k)=(List.range j.toNat).map λ(k:Nat)=>D.int (0+k):=by simp
  rw[e]at b;exact⟨j,rfl,c.1,c.2,q _ _ ⟨_,[],g,r,s,h,b,zg4 0 j.toNat⟩⟩;exact b.elim
 |_=>exact b.elim
def znO(r:Gl X "range"/\X.mg "range"=Ψ)(s:PE X a (tE X.K cf t))(x:PE X b (tE X.K cf y))(g:zai a=Γ)(f:zai b=Γ):PI X tg (.Call (.Name "range" p) [a,b] [] pos) (tI X.K cf (.rng2 t y)):=by refine PI.imp (zjJ r.1 r.2 (zaT s (zaP x f) (zah g [b] X.env)) (by rw[zah g,zah f];rfl) (zah f [] X.env)) λU H R z=>?_;let⟨Y,ι,S,Q,A,B,w,q⟩:=z;change W (Out.bind _ _) _ at w;simp![zab] at w;refine tE.run A B w λd v C H1 S1 E l m G I=>tE.run l m I λe u n H2 J L M o O h=>?_;split at h;rename_i i j;obtain rfl:v=.int i:=G;obtain rfl:u=.int j:=O;split at h;rename_i c;exact⟨i,j,rfl,c,q _ _ ⟨_,[],n,J,E.trans L,o,h,zg4 i (j-i).toNat⟩⟩;exact h.elim;exact h.elim
def zcD{g:List Addr}(I:Inv X a h H s)(k:∀b o,b∉g->s.heap.get? b=Φ o->h'.get? b=Φ o)(hf:∀b∈g,FpOk X a H b):Inv X a h H {s with heap:=h',toks:=t'}:=by
 have f:∀b u,H b=Φ u->b∉g:=λb u e z=>by rw[(hf b z).1]at e;exact nS e
 refine I.step (λb i=>?_) (λb o _ _ d e _=>k b o d e) (λb o _ _ d e _=>⟨o.slots,k b o d e⟩) (λ_ _ _ _ n=>n)
  (λb o d e=>⟨o,k b o d e⟩) (λ_ _ e=>e) (λ_ _ _ e=>e) (λb C e=>⟨#[],by rw[e];simp⟩) (λm j=>?_) (λb u e=>?_) I.bare
 let⟨E,l,G,t,w,x⟩:=hf b i;exact⟨t,l,w,x⟩;let⟨o,y,A,B,r⟩:=j;exact⟨o,y,A,k _ o (λz=>(hf _ z).2.1 rfl) B,r⟩;refine(I.hok b u e).stay (λc v d q=>k c v ?_ q) (λ_ q=>q) λ_ _ q=>q;rcases d with z|z;rw[z];exact f b u e;exact f c _ z
abbrev tG(K:PySem.W.Frag)(is:List Nat):TG:=λv f H g=>∃e c d a,RS K c H e f/\RV K c H d v/\asgG is d e=Φ a/\∀b,RS K c H a b->g b H
abbrev tGs(K:PySem.W.Frag)(is:List Nat):TGs:=λe f H g=>∃d b c,RS K b H d f/\RVs K b H c e/\c.length=is.length/\∀a,RS K b H (zeA is c d) a->g a H
def PG.imp(h:PG X tg t)(i:∀v a H Q,t' v a H Q->t v a H Q):PG X tg t':=λb s a H v u Q I r q=>h b s a H v u Q I r (i v a H Q q)
def PGs.imp(h:PGs X es t)(i:∀v a H Q,t' v a H Q->t v a H Q):PGs X es t':=λb s a H v u Q I r q=>h b s a H v u Q I r (i v a H Q q)
def znR(G:Gd T cf k N sc X)(b:N[i]?=Φ x)(a:zb5 sc x=Γ):PG X (.Name x pos) (tG X.K [i]):=by refine PG.imp (zjL (by rw[G.nm];exact G.nd) (by rw[G.nm];exact b) (G.lc a).1 (G.lc a).2) λv g H h z=>?_;let⟨j,l,d,c,f,r,e,q⟩:=z;cases e;exact q _ (f.set r i)
set_option backward.match.sparseCases false in
abbrev zb8(sc:Scope)(N:List Str):List Nat->List Expr->Bool
 | [],[]=>Γ|i::a,.Name x _::b=>(N[i]?==Φ x)&&zb5 sc x&&zb8 sc N a b|_,_=>Δ
def zfn(G:Gd T cf k N sc X):∀{is:List Nat}{es:List Expr},zb8 sc N is es=Γ->PGs X es (tGs X.K is)/\(assignEach es X.env).length=is.length/\(assignEach es X.env).findIdx? (·.1)=Ψ
 | [],[],_=>⟨PGs.imp zoB λv j H n z=>by
  let⟨l,m,a,c,r,b,q⟩:=z
  have:a=[]:=by simpa using b
  subst this;exact⟨r,q j (by simpa[zeA]using c)⟩,rfl,rfl⟩
 | [],_::_,h=>by exact nB h|_::_,[],h=>by exact nB h| i::is,e::es,h=>by
  cases e with
  |Name x pos=>
   replace h:(_&&_&&_)=Γ:=h;simp![Ε,beq_iff_eq]at h;let⟨o,s,t⟩:=zfn G h.2;refine⟨PGs.imp (zlO (zjL (by rw[G.nm];exact G.nd) (by rw[G.nm];exact h.1.1) (G.lc h.1.2).1 (G.lc h.1.2).2) o) λv j H n ⟨l,m,a,c,r,b,q⟩=>?_,?_,?_⟩;cases a with|nil=>simp at b| cons d a=>let⟨u,w,rfl,y,A⟩:=r;exact⟨u,w,rfl,⟨l.set i (Φ d),m,a,c.set y i,A,by simpa using b,λf g=>q f (by simpa[zeA]using g)⟩⟩
   show((Δ,_)::assignEach es X.env).length=_;simp[s];show((Δ,_)::assignEach es X.env).findIdx? _=_;simp[List.findIdx?_cons,t]
  |_=>exact nB h
def zmF(f:2<=is.length)(e:asgG is d δ=Φ δ'):∃ds,d=.tup ds/\ds.length=is.length/\δ'=zeA is ds δ:=by
 match is,f with
 |a::b::t,_=>
  cases d with
  |tup ds=>simp![asgG]at e;split at e;rename_i c;cases e;exact⟨ds,rfl,c,rfl⟩;exact nS e
  |_=>exact nS e
def zmS(G:Gd T cf k N sc X)(h:zb8 sc N is es=Γ)(g:2<=is.length):PG X (.Tuple es j pos) (tG X.K is):=by let⟨i,l,b⟩:=zfn G h;refine PG.imp (zrj G.calm i l b) λv x H y z=>?_;let⟨m,n,d,o,s,r,e,q⟩:=z;let⟨t,rfl,c,rfl⟩:=zmF g e;let⟨a,u,rfl,w,f⟩:=r;exact⟨a,u,rfl,SqT.of w,by rw[f.length];exact c,m,n,t,s,f,c,q⟩
def Ext.tmp{p}(x:Ext ι H ι' H')(c:H p=Ψ)(e:H' p=Φ (.lst vs)):Ext ι H ι' (upd H' p (.lst us)):=by refine⟨x.pre,x.kp.trans (.same (Tups.upd_lst e) (λb o u h=>?_) λb i h=>?_),λb o d a=>?_⟩;rw[zaf];exact h;rintro rfl;rw[e]at h;cases h;rw[zaf];exact h;rintro rfl;rw[e]at h;cases h;let⟨f,g⟩:=x.rest b o d a;refine⟨?_,g⟩;rw[zaf];exact f;rintro rfl;rw[c]at a;exact nS a
def Kp.tmp{p}(e:H p=Φ (.lst vs)):Kp H (upd H p (.lst us)):=.same (Tups.upd_lst e) (λb o u h=>by
 rw[zaf];exact h;rintro rfl;rw[e]at h;cases h) λb a h=>by
 rw[zaf];exact h;rintro rfl;rw[e]at h;cases h
def RH.tmp{K}{p}(b:RH K ι H S)(c:p∉ι)(e:H p=Φ (.lst vs)):RH K ι (upd H p (.lst us)) S:=⟨b.len,b.nd,λl o q=>by let⟨a,d,f,g⟩:=b.mem q;exact⟨a,d,f.up (ϛ _) (Kp.tmp e) (zaf λz=>c (z▸g))⟩,(Kp.tmp e).tab b.tab⟩
def RS.up{K}(h:RS K ι H δ a)(b:ι <+: ι')(c:Kp H H'):RS K ι' H' δ a:=⟨h.1,λi d e=>let ⟨v,f,r⟩:=h.2 i d e;⟨v,f,r.up b c⟩⟩
def RH.lk{K}(a:RH K ι H S)(ks):RH K ι H {S with lk:=ks}:=⟨a.len,a.nd,λl o e=>a.obj l o e,a.tab⟩
def RS.csl{K}(h:RS K ι H δ g)(a)(b):RS K ι H (R.csl a b δ) (L2.csl a b g):=by
 refine⟨by simp[R.csl,L2.csl],λi d e=>?_⟩;unfold R.csl at e;unfold L2.csl;by_cases c:i<a;rw[getElem?_append_left (by simpa using c),List.getElem?_replicate]at e;rw[if_pos c]at e;cases e;rw[getElem?_append_right (by simpa using c)]at e⊢;simp![length_replicate,getElem?_map]at e⊢;cases f:b[i-a]? with
 |none=>rw[f]at e;exact nS e
 |some j=>
  rw[f]at e;simp![Option.map_some,Option.some.injEq]at e⊢;have l:δ[j]?=Φ (Φ d):=by
   cases z:δ[j]? with
   |none=>rw[z]at e;exact nS e
   |some o=>rw[z]at e;simp at e;rw[e]
  let⟨v,m,r⟩:=h.2 j d l;exact⟨v,by rw[m];rfl,r⟩
def zdP{a:Type}{xs:List a}{x}(h:xs[i]?=Φ x):xs.drop i=x::xs.drop (i+1):=by let⟨b,c⟩:=Α.mp h;rw[List.drop_eq_getElem_cons b,c]
abbrev CInv(K:PySem.W.Frag)(cf:CF)(g:List Nat)(c e:CE)(Q:List D×List Nat->R.St->Prop)(ds:List D)(f:List Nat)(l:List Addr)(o:Hp)(S1:R.St)(p:Addr)(i:Nat)(m:L2.St)(H':Hp):Prop:=
 i<=ds.length/\∃h a j d n,RS K a H' h m/\Ltr K l o S1 f a H' j/\j.lk=f++S1.lk/\S1.len<=j.len/\p∉a/\H' p=Φ (.lst n)/\RVs K a H' d n/\
  W (za3 g (evT cf c) (evE cf e) (ds.drop i) h j) λb q=>(d++b).length<=16777216/\Q (d++b,[]) {q with lk:=S1.lk}
def zhX(hcf:CFok cf)(h:tLt X.K cf (.comp nt js is it c e) σ H Qv):zgn nt js (tI X.K cf it) (tG X.K is) (tT X.K cf c) (tE X.K cf e) σ H Qv:=by
 let⟨δ,ι,S,Q,hs,hh,w,q⟩:=h;change W (Out.bind _ _) _ at w;simp![zab] at w;refine⟨δ,ι,S,_,hs,hh,w,λJ H1 k=>?_⟩;let⟨ds,a,G,y,x1,I,w1,wk⟩:=k;unfold za4 at w1;rw[zab]at w1;intro p O;have hpi:=I.fresh O;refine⟨λi m σ' H'=>m=ds.length-i/\CInv X.K cf is c e Q ds a G H1 y p i σ' H',⟨_,rfl,zero_le _,R.csl nt js δ,G,{y with lk:=a++y.lk},[],[],((hs.ext x1).csl _ _).up (ϛ _) (Kp.new O _),⟨Ext.new O _,(I.lk _).new O _,λl _=>rfl⟩,rfl,le_refl _,hpi,zag,rfl,?_⟩,?_⟩;refine w1.mono λA S2 w2=>?_;simp![W_ok]at w2;split at w2;rename_i c;exact⟨by simpa using c,by simpa using w2⟩;exact w2.elim;rintro i m σ' H' ⟨rfl,hle,δ',g,U,s,vs,hs',B,hlk,hln,t,hpv,ra,j⟩;rcases Nat.lt_or_eq_of_le hle with u|rfl;refine .inr ⟨wk.go i g H' U B u,CInv X.K cf is c e Q ds a G H1 y p (i+1),λσ2 H2 h=>⟨_,by lia,rfl,h⟩,λx H2 hy=>?_⟩;let⟨Y,hh2,d,hd,rd⟩:=wk.yld i g H' U x H2 B u hy;have hs2:=hs'.ext Y;have hp2:=Y.keep t hpv (by simp);rw[zdP hd]at j;simp![za3]at j;cases ea:asgG is d δ' with
 |none=>rw[ea]at j;exact j.elim| some n=>
  rw[ea]at j;rw[zab]at j;refine⟨δ',g,d,n,hs2,rd,ea,λσ2 hs3=>?_⟩;refine tT.run hs3 hh2 ((frT hcf c n U).w j) λb ι3 H3 S3 x3 hs4 hh3 L=>?_;let⟨L,f3⟩:=L;have M:=x3.keep t hp2 (by simp);have o:=(x3.rest p _ t hp2).2;have C:∀{S4:R.St},Frm U S4->S4.lk=a++y.lk/\y.len<=S4.len/\∀l∈a,S4.get l=y.get l:=λf=>⟨f.lk.trans hlk,le_trans hln f.lens,λl hl=>(f.same l (by rw[hlk];exact mem_append_left _ hl) (lt_of_lt_of_le (wk.lks l hl) hln)).trans (B.lck l hl)⟩;cases b with
  |false=>let⟨k1,k2,k3⟩:=C f3;exact⟨u,n,ι3,S3,s,vs,hs4,⟨(B.ext.trans Y).trans x3,hh3,k3⟩,k1,k2,o,M,(ra.ext Y).ext x3,L⟩| true=>
   simp![if_true]at L⊢;rw[zab]at L;refine tE.run hs4 hh3 ((frE hcf e n S3).w L) λz v ι4 H4 S4 x4 hs5 hh4 rz w4=>?_;let⟨w4,f4⟩:=w4;let⟨k1,k2,k3⟩:=C (f3.trans f4);have r:=x4.keep o M (by simp);have E:=(x4.rest p _ o M).2;rw[zab]at w4;have ra4:=((ra.ext Y).ext x3).ext x4;have hlen:s.length<16777216:=by let⟨A,S5,_,w5⟩:=zfj w4;have:=w5.1;simp at this;lia
   refine⟨vs,r,by rw[ra4.length];exact hlen,u,n,ι4,S4,s++[z],vs++[v],hs5.up (ϛ _) (Kp.tmp r),⟨(((B.ext.trans Y).trans x3).trans x4).tmp O r,hh4.tmp E r,k3⟩,k1,k2,E,zag,?_,?_⟩;exact(RVs.append (es:=[z]) ra4 ⟨v,[],rfl,rz,rfl⟩).up (ϛ _) (Kp.tmp r);refine w4.mono λA S5 w5=>?_;simpa using w5
 refine .inl ⟨wk.stop _ g H' U B (le_refl _),?_⟩;rw[List.drop_length]at j;simp![za3,W_ok,Ϟ]at j;exact q _ _ ⟨s,g,{U with lk:=y.lk},p,vs,x1.trans B.ext,rfl,ra,t,hpv,B.rh.lk _,zgi I x1 O,j.2⟩
abbrev Ite(K:PySem.W.Frag)(a:Addr):It:=
 ⟨λi H=>∃b x,SqL K H a b/\b[i]?=Φ x,
  λi H v c=>∃T x,H T=Ψ/\v=.ref T/\c=upd H T (.tup [.int i,x])/\∀b,SqL K H a b->b[i]?=Φ x,
  λi H=>∃b,SqL K H a b/\b.length<=i⟩
def zi2{P:Ο}{w:ϋ}{K:PySem.W.Frag}{es:List Expr}{j:Nat}{pt:Pos}{e it a:Addr}(r:e≠it):Turn P w K (.Tuple es j pt) (Ite K a) [e,it] e
  (λi h=>(∃l,IsEnum h e it i l)/\h.IsListIter it a i) where
 mem:=by simp
 obj:=λi h st c d=>by let⟨⟨l,m⟩,⟨o4,B,_,d4⟩⟩:=st;simp![mem_cons,not_mem_nil,or_false]at d;rcases d with rfl|rfl;exact⟨_,m,λv z=>by cases z⟩;exact⟨_,B,λv z=>by rw[d4]at z;cases z⟩
 keep:=λi h h' st k=>by let⟨⟨l,m⟩,B⟩:=st;exact⟨⟨l,k e (by simp) _ m⟩,B.at λo x=>k it (by simp) o x⟩
 item:=by
  intro X C G J d i g s L H E I M st O;subst C G J;let⟨xs,x,y,hx⟩:=O;let⟨xv,Q,U,_⟩:=I.list y;let⟨u,hu,ru⟩:=Q.get hx;let⟨⟨l,A⟩,m⟩:=st;refine wpAny_pyNext_enum_item A m U.isList (x:=u) (by simpa using hu) r λh' a1 a3 a5 a6 Y=>?_;have hn:=I.hok.fresh (le_refl _);have I1:Inv X g L (upd H s.heap.objs.size (.tup [.int i,x])) {s with heap:=s.heap.push {cls:=.type "tuple",data:=.seq #[.int i s.toks,u]},toks:=s.toks+1}:=I.laid (t':=s.toks+1) (λb u e=>Λ _ e) (le_refl _) ⟨by rw[Χ];simp,[.int i s.toks,u],.cons ⟨_,rfl⟩ (.cons ru .nil),⟨_,Ι _ rfl,rfl,_,rfl⟩⟩;have lt:∀{c o},s.heap.get? c=Φ o->c≠s.heap.objs.size:=λe=>ne_of_lt (Β e);have nf:∀c∈[e,it],c≠s.heap.objs.size:=by intro c d;simp![mem_cons,not_mem_nil,or_false]at d;rcases d with rfl|rfl;exact lt A;let⟨o,z,_⟩:=m;exact lt z
  have n:∀c∈[e,it],FpOk X g (upd H s.heap.objs.size (.tup [.int i,x])) c:=λc d=>by let⟨f0,f⟩:=M c d;exact⟨by rw[zaf (nf c d)];exact f0,f⟩
  have two:∀{c:Addr},¬c∈[e,it]->c≠e/\c≠it:=λ{c} d=>by simp![mem_cons,not_mem_nil,or_false,not_or]at d;exact d
  have k2:∀c o,¬c∈[e,it]->(s.heap.push {cls:=.type "tuple",data:=.seq #[.int i s.toks,u]}).get? c=Φ o->h'.get? c=Φ o:=λc o d z=>by by_cases hs:c=s.heap.objs.size;subst hs;have e2:(s.heap.push {cls:=.type "tuple",data:=.seq #[.int i s.toks,u]}).get? s.heap.objs.size=_:=Ι _ rfl;rw[e2]at z;cases z;exact a5;exact Y c o (two d).1 (two d).2 ((Heap.get?_push_ne _ _ _ hs).symm.trans z)
  have I2:=zcD (s:={s with heap:=s.heap.push {cls:=.type "tuple",data:=.seq #[.int i s.toks,u]},toks:=s.toks+1}) (h':=h') (t':=s.toks+1) I1 k2 n;refine⟨_,rfl,?_⟩;refine wpAny_letOwnedTupleGo_enum a1 λh2' hz' t=>?_;refine⟨.ref s.heap.objs.size,upd H s.heap.objs.size (.tup [.int i,x]),zcD (t':=s.toks+1) I2 (λc o d z=>t.extBut _ _ (two d).1 z) n,rfl,⟨_,x,hn,rfl,rfl,λxs' hx'=>by rw[I.list_inj hx' y];exact hx⟩,
   ⟨⟨_,hz'⟩,a3.extBut t.extBut (Ne.symm r)⟩,λc d=>(n c d).1⟩
 done:=by intro X C G J d i g s L H E I M st O;subst C G J;let⟨xs,y,hl⟩:=O;let⟨xv,Q,U,_⟩:=I.list y;let⟨⟨l,A⟩,m⟩:=st;have l1:=Q.length;refine wpAny_pyNext_enum_end (I.ok.hd d) A m U.isList (by simp;lia) λh' Y=>⟨rfl,zcD (t':=s.toks) I (λc o d z=>Y c o (λq=>d (by simp[q])) z) M⟩
 self:=λ_ _ _ _ _ st h=>wpAny_pyIter_enum st.1.choose_spec h
abbrev ztT(K:PySem.W.Frag)(t:TA):TI:=λc H R=>t c H λd b=>∃a e,d=[.ref a]/\SqL K b a e/\R (Ite K a) b
def zoA(n:Gl X "enumerate")(o:X.mg "enumerate"=Ψ)(t:PA X [a] u)(hs:starEach [a] X.env=[(Δ,eval a X.env)]):
  PI X (.Tuple es j G) (.Call (.Name "enumerate" p) [a] [] pos) (ztT X.K u):=by
 intro b s v H R I h;refine Call_ (zdG I n o boot_enumerate (PyProof.Rows.callWith_type1 (thn (t pos b s v H _ I h) λJ g z=>?_) hs rfl));let⟨L,w,d,x,f⟩:=z;let⟨l,M,e,f,q⟩:=f;subst e;cases x with
 |cons r y=>
  cases y;cases r;let⟨O,Q,A,_⟩:=d.list f;refine call_enumerate_list A.isList λU i B C E=>?_;refine wpAny_pyIter_enum i ?_;refine⟨_,_,_,_,w,rfl,d.kept E,zi2 (Nat.succ_ne_self _),⟨⟨_,i⟩,B⟩,λc m=>?_,q⟩;simp![mem_cons,not_mem_nil,or_false]at m;have:g.heap.objs.size<=c:=by rcases m with rfl|rfl;exact le_succ _;exact le_refl _
  exact d.fpOk this (d.hok.fresh this)
def znt{K}(o:S.get l=Φ (.lst ds))(t:ι[l]?=Φ a):Wk K (Ite K a) (ds.mapIdx λi d=>zd7 (.int i) d) [l] ι H S:=by
 have g:∀{b f m},Ltr K ι H S [l] b f m->∃c,SqL K f a c/\RVs K b f ds c:=λ{b f m} e=>by let⟨C,q,c,h,j⟩:=e.rh.obj l (.lst ds) ((e.lck l (by simp)).trans o);rw[zbK e.ext.pre t]at q;cases q;exact⟨c,SqL.of h,j⟩
 refine⟨λi b f m e n=>?_,λi b f m x E e n y=>?_,λi b f m e n=>?_,λk v=>?_⟩;let⟨c,h,j⟩:=g e;rw[List.length_mapIdx]at n;have w:=j.length;exact⟨c,c[i]'(by lia),h,Η _⟩;let⟨c,h,j⟩:=g e;let⟨T,u,r,rfl,rfl,z⟩:=y;let⟨d,A,B⟩:=j.get' (z c h);have s:Ext b f b (upd f T (.tup [.int i,u])):=Ext.new r _;refine⟨s,e.rh.new r _,zd7 (.int i) d,by rw[List.getElem?_mapIdx,A];rfl,?_⟩;exact⟨T,[.int i,u],rfl,zag,.int i,[u],rfl,rfl,u,[],rfl,B.ext s,rfl⟩;let⟨c,h,j⟩:=g e;rw[List.length_mapIdx]at n;have w:=j.length;exact⟨c,h,by lia⟩;cases mem_singleton.mp v;exact zak o
end
end R
namespace R
open PySem PySem.Spec PyProof.Rows L2
section
variable[Mks]{T:Tab}{cf:CF}{k:Nat}{N:List Str}{sc:Scope}{X:Cx}{pos p:Pos}
def ziB(h:zb9 S x=Φ r):∃l ds,x=.ref l/\S.get l=Φ (.lst ds)/\r=(ds.mapIdx λi d=>zd7 (.int i) d,[l]):=by
 cases x with
 |ref l=>
  simp![zb9]at h;cases e:S.get l with
  |none=>rw[e]at h;exact nS h
  |some o=>rw[e]at h;cases o with|lst ds=>cases h;exact⟨l,ds,rfl,e,rfl⟩|_=>exact nS h
 |_=>exact nS h
def znQ(f:Gl X "enumerate"/\X.mg "enumerate"=Ψ)(m:PE X a (tE X.K cf n))(b:zai a=Γ):PI X (.Tuple es j I) (.Call (.Name "enumerate" p) [a] [] pos) (tI X.K cf (.enum n)):=by refine PI.imp (zoA f.1 f.2 (zaP m b) (zah b [] X.env)) λJ H R z=>?_;let⟨L,M,S,Q,o,s,w,q⟩:=z;refine tE.run o s w.b λd v e O t u x c y A=>?_;let⟨r,B,C⟩:=zau A;let⟨l,U,rfl,g,rfl⟩:=ziB B;let⟨a,h,rfl⟩:=y;let⟨Y,i,E,G,rx⟩:=c.obj l _ g;rw[h]at i;cases i;exact⟨a,E,rfl,SqL.of G,q _ _ ⟨_,_,e,t,u,c,C,znt g h⟩⟩
end
end R
namespace R
open PySem PySem.Spec PyProof.Rows L2
variable[Mks]
section
variable{X:Cx}{pins:List (Addr×Obj)}{σ:L2.St}{H H':Hp}{s:Ζ}
structure Own(X:Cx)(pins:List (Addr×Obj))(b:Addr):Prop where
 new:X.s₀.heap.objs.size<=b
 loc:b≠X.env.locals
 cel:∀x c,X.env.cells.lookup x=Φ c->c≠b
 pin:∀p∈X.pn++pins,p.1≠b
def Own.fresh(I:Inv X pins σ H s)(h:s.heap.objs.size<=b):Own X pins b:=by refine⟨le_trans I.sz h,λe=>?_,λx c e z=>?_,λp a z=>?_⟩;exact absurd (lt_of_lt_of_le I.lt h) (by rw[e];exact lt_irrefl _);let⟨v,o,d,_⟩:=I.cell x c e;exact absurd (lt_of_lt_of_le (Β d) h) (by rw[z];exact lt_irrefl _);exact absurd (lt_of_lt_of_le (Β (I.pin p a).1) h) (by rw[z];exact lt_irrefl _)
def Own.stk(o:Own X pins b)(I:Inv X pins σ H s):b∉frs X.stack:=λa=>by rcases mem_cons.mp (I.stkSub b a) with e|e;exact o.loc e;let⟨_,d,c,_⟩:=I.ok.funs.mem e;exact absurd (lt_of_lt_of_le (Β c) o.new) (lt_irrefl _)
def za5{ch:List Addr}(I:Inv X pins σ H s)(f:∀b∈ch,Own X pins b)(g:∀b∈ch,H b=Ψ)(k:∀b o,b∉ch->s.heap.get? b=Φ o->h'.get? b=Φ o)(h:AllBare g'):
  Inv X pins σ H {s with heap:=h',gens:=g',drawn:=d',toks:=t'}:=by
 refine I.call ⟨λb o e n _ d=>k b o d e,λb o e n _ d=>⟨o.slots,k b o d e⟩,λb o _ n _=>n,λb o e d=>⟨o,k b o d e⟩,λ_ _ e=>e,λ_ _ _ e=>e,λb i e=>⟨#[],by rw[e];simp⟩⟩ ?_ h λb c=>⟨.inr (f b c).new,(f b c).loc,(f b c).cel,(f b c).pin⟩;intro a o e;refine(I.hok a o e).stay (λb u c q=>k b u (λz=>?_) q) (λ_ q=>q) λ_ _ q=>q;have:=g b z;rcases c with rfl|c;rw[e]at this;cases this;rw[c]at this;cases this
end
section
variable{X:Cx}{pins:List (Addr×Obj)}{σ:L2.St}{H H':Hp}{s:Ζ}{b:Addr}{o:HO}
def zfP(I:Inv X pins σ H s)(f:Own X pins b)(d:H b=Ψ)(ok:ObjOk X.prog X.w (upd H b o) s.heap b o):Inv X pins σ (upd H b o) s:=by
 have g:Un (frs X.stack) [b] H (upd H b o) s.heap s.heap:=⟨λc q e _ _ _=>e,λc q e _ _ _=>⟨q.slots,e⟩,λc q e n h=>by rw[zaf (by simpa using h)];exact n,λc q e _=>⟨q,e⟩,
  λc i q=>by rw[zaf (zam q d)];exact q,λc q u e=>by rw[zaf (zam e d)];exact e,λc k q=>⟨#[],by rw[zaf (zam q d),q];simp⟩⟩
 refine I.call' rfl g ?_ I.bare λc j=>?_;intro a u e;by_cases z:a=b;subst z;rw[zag]at e;cases e;exact ok;rw[zaf z]at e;exact(I.hok a u e).stay (λ_ _ _ q=>q) (λc q=>by rw[zaf (zam q d)];exact q) λc i q=>by rw[zaf (zam q d)];exact q
 rw[mem_singleton.mp j];exact⟨.inr f.new,f.loc,f.cel,f.pin⟩
end
structure StepT(P:Addr)(H H':Hp):Prop where
 rest:∀a o,a≠P->H a=Φ o->H' a=Φ o
 tab:∀ps,H P=Φ (.tbl ps)->∃more,H' P=Φ (.tbl (ps++more))
def zfa(h:TriplesOk l)(e:codeAmong pos (l++[a,b,c])=Φ v):codeAmong pos l=Φ v\/v=c:=by
 induction l using codeAmong.induct (pos:=pos) with
 |case1 d _ g _ j f cond=>simp![List.cons_append,codeAmong,cond]at e⊢;exact .inl e| case2 d _ g _ j f cond k=>simp![List.cons_append,codeAmong,cond]at e⊢;exact k (by simpa[TriplesOk]using h) e| case3 l i=>
  cases l with
  |nil=>right;unfold codeAmong at e;split at e;rename_i h;let⟨_,_,rfl,rfl⟩:=h;split at e;cases e;rfl;simp[codeAmong]at e;exact nS e
  |cons x l=>exfalso;unfold TriplesOk at h;split at h;rename_i h0;cases h0;rename_i h0;cases h0;exact i _ _ _ _ _ _ rfl;exact h
def StepT.ext(st:StepT P H H')(b:H P=Φ (.tbl ps))(f:TB H'):Ext [] H [] H':=by
 have c:∀a o,H a=Φ o->(∀ps,o≠.tbl ps)->a≠P:=λa o e n z=>by rw[z,b]at e;cases e;exact n _ rfl
 refine⟨ϛ _,⟨λa h e=>st.rest a _ (c a _ e (by simp)) e,λa o u e=>st.rest a _ (c a _ e (by simp)) e,λ_=>f⟩,λa o _ e=>⟨?_,by simp⟩⟩;by_cases z:a=P;subst z;let⟨d,g⟩:=st.tab ps b;rw[b]at e;cases e;exact .inr ⟨⟨_,rfl⟩,_,g⟩;exact .inl (st.rest a o z e)
section
variable{X:Cx}{pins:List (Addr×Obj)}{σ:L2.St}{H:Hp}{s:Ζ}{c P:Addr}{params:Arguments}{scope:Scope}{lpos:Pos}
def BM.at_(b:BM X.mg X.base)(I:Inv X pins σ H s)(f:H P=Φ o):s.heap.BuiltinsAt X.mg P:=by let⟨a,d,g,h,i,j,k⟩:=b;let⟨l,e⟩:=I.bs a d j;exact⟨a,d,g,h,i,λz=>(by rw[z,f]at e;cases e),l,k⟩
end
def zo9{K}(S:FnScope N i scope)(l:Room (k+1) A)(m:Env0 P w K B base A outer s H)(G:s.heap.get? f=Φ (kla_obj name a c d scope [] L h ct))(n:s.heap.CodeRec (.ref h) a)(M:BindsTo s (kla_fn name a c d scope [] L (.ref h) ct) args (i.zip us))(r:Vals vs us)(O:vs.length=i.length)(T:Room k (A.deeper (envOfC a scope s.heap.objs.size f (.ref h)))->PE (cxOf CX P w K B base N a scope f (.ref h) A outer s H E) d t)(U:t (start N vs) H Q):
  codeAny (model P w) A (.call (.ref f) args) (CR CX outer P w H s Q E) s:=by
 have p:=m.mod.nolimit.keeps λb o e=>(m.bs b o e).1;have g:∀y∈i.zip us,scope.names.lookup y.1=Φ .local\/(scope.names.lookup y.1=Φ .cell/\((cellsFrom (s.heap.objs.size+1) scope.names []).lookup y.1).isSome=Γ):=λj Y=>(by let⟨x,v⟩:=j;exact (S.par x (of_mem_zip Y).1).elim .inl λq=>.inr ⟨q,cellsFrom_some _ _ _ (.inl q)⟩);refine PySem.W.kla_callFunE l.depth G rfl S.co S.gen rfl n (M _ _ _ _ ?_);refine wpAny_newFunctionEnv_cells S.kind g λenv he C x=>?_;subst he;refine⟨p.keeps x.toInCall.keep,PySem.W.kla_codeExpr ?_⟩;have I:Inv (cxOf CX P w K B base N a scope f (.ref h) A outer s H E) [] (start N vs) H C:=zfQ S l.hd m O r x;exact Τ (T (l.deeper _) [] C (start N vs) H _ I U) (λu s' z=>(by let⟨v,H',J,rv,q⟩:=z;exact ⟨v,H',J.os,J.bare,J.base,J.hok,rv,q⟩)) λe s' hs=>hs
structure LamAt(H:Hp)(f:Addr)(name qual:Str)(params:Arguments)(body:Expr)(scope:Scope):Prop where
 ex:∃(pm ct:Ξ) (c':Addr) (oc:Obj) (vs:Array Ξ) (t:Tok),H f=Φ (.frz (kla_obj name qual params body scope [] pm c' ct) (.own 0))/\H c'=Φ (.frz oc (.own 0))/\oc.data=.fields vs/\vs[1]?=Φ (.str qual t)
def LamAt.up(L:LamAt H f name b a body scope)(k:Kp H H'):LamAt H' f name b a body scope:=by let⟨c,d,e,g,h,t,i,j,l⟩:=L.ex;exact⟨c,d,e,g,h,t,k.frzs _ _ _ i,k.frzs _ _ _ j,l⟩
@[reducible]def zgj(s:Ζ)(a:Addr)(vs:List Ξ)(e:Nat):Prop:=s.heap.get? a=Φ (seqObj "list" vs.toArray e)
def zeR(h:zgj s a vs e)(g)(b:g vs.toArray=us.toArray):∃c,zgj {s with heap:=s.heap.update a (Obj.mapSeq g)} a us c:=⟨_,by have:=get?_update_seq h g;rw[b]at this;exact this⟩
def zbU{s:Ζ}(n:b≠a)(h:s.heap.get? b=Φ o):(s.heap.update a g).get? b=Φ o:=by rw[Heap.get?_update_ne _ _ _ _ n];exact h
structure KEnd(X:Cx)(pins:List (Addr×Obj))(σ:L2.St)(H:Hp)(D:Addr)(out:List Ξ)(s':Ζ):Prop where
 ex:∃H' e,Inv X pins σ H' s'/\Ext [] H [] H'/\H' D=Ψ/\zgj s' D out e
def getD_mem{a:Type}{xs:List a}(d)(h:i<xs.length):xs[i]?=Φ (xs.getD i d):=by rw[List.getD_eq_getElem?_getD,Η h];rfl
section
variable{X:Cx}{pins:List (Addr×Obj)}{σ:L2.St}{H H':Hp}{s:Ζ}{b:Addr}{o:HO}
def zkI(c:H b=Ψ):Ext [] H [] (upd H b o):=⟨ϛ _,Kp.new c o,λa u _ e=>⟨.inl (by rw[zaf (zam e c)];exact e),by simp⟩⟩
end
section
variable{X:Cx}{pins:List (Addr×Obj)}{σ:L2.St}{H:Hp}{s:Ζ}{c P:Addr}{params:Arguments}{body:Expr}{scope:Scope}{lpos:Pos}
def zma(I:Inv X pins σ H s)(bm:BM X.mg X.base)(p:X.env.code=.ref c)(hC:codeHdIn X.K c P=Γ)(tb:TabIn H P (X.env.qual ++ "<lambda>"))(L:defaultsOf params X.env=([],[]))(M:closureFor scope X.env=pure [])(q:∀f H' s',Inv X pins σ H' s'->LamAt H' f "<lambda>" (X.env.qual ++ "<lambda>") params body scope->TabIn H' P (X.env.qual ++ "<lambda>")->StepT P H H'->Q (.ref f) s'):
  wpAny (model X.prog X.w) X.A (eval (.Lambda params body scope lpos) X.env) Q E s:=by
 let⟨w,k,N,h3⟩:=tb;have C:=PySem.W.codeHd_of_K I.kIn hC;have hP:=I.hok P _ k;have i:=bm.at_ I k;have hg:=I.mod.glob.keeps I.bk;have O:=Β hP;refine PySem.W.kla_eval L ?_;cases hf:codeAmong lpos w.toList with
 |some cv=>
  let⟨g,x,vs,t,rfl,T,a3,a4⟩:=h3 lpos cv hf;refine PySem.W.kla_makeFunctionHit M I.ok.glob hg p C hP N hf i λj h U hk Y=>?_;have hn:=I.hok.fresh Y;have ow:=Own.fresh I Y;have I1:Inv X pins σ H {s with heap:=h.push (kla_obj "<lambda>" (X.env.qual ++ "<lambda>") params body scope [] ((X.mg "__name__").getD .none) g j),toks:=U}:=za5 (ch:=[]) I (λb i=>by cases i) (λb i=>by cases i) (λb o _ e=>Λ _ (hk b o e)) I.bare;have I2:=zfP (o:=.frz (kla_obj "<lambda>" (X.env.qual ++ "<lambda>") params body scope [] ((X.mg "__name__").getD .none) g j) (.own 0)) I1 ow hn ⟨Ι _ rfl,_,Ι _ rfl⟩;have st:∀a o,H a=Φ o->upd H h.objs.size (.frz (kla_obj "<lambda>" (X.env.qual ++ "<lambda>") params body scope [] ((X.mg "__name__").getD .none) g j) (.own 0)) a=Φ o:=λa o e=>by rw[zaf (zam e hn)];exact e
  refine q _ _ _ I2 ⟨_,j,g,x,vs,t,zag,st _ _ T,a3,a4⟩ ?_ ⟨λa o _ e=>st a o e,λps' e=>⟨#[],by rw[st _ _ e];simp⟩⟩;exact TabIn.up ⟨w,k,N,h3⟩ (by rw[st _ _ k,k]) λb o u e=>st _ _ e
 |none=>
  have hgP:mainGlobals≠P:=λz=>by let⟨o,es,ep,e,hd,_⟩:=hg;rw[z,hP]at e;cases e;cases hd
  refine PySem.W.kla_makeFunction M I.ok.glob hg p C hP N hf hgP i λg j h U hx m A hrec htb=>?_;let⟨c2,x,vs,t,e2,hoc,hd,hv⟩:=hrec;cases e2;generalize hfo:kla_obj "<lambda>" (X.env.qual ++ "<lambda>") params body scope [] ((X.mg "__name__").getD .none) g j=B;have hfr:(h.push B).get? h.objs.size=Φ B:=by rw[<-hfo];exact Ι _ rfl
  have hfn:=I.hok.fresh (le_trans m (le_of_lt A));have hcn:=I.hok.fresh m;have nPc:=ne_of_lt (lt_of_lt_of_le O m);have nPf:=ne_of_lt (lt_trans (lt_of_lt_of_le O m) A);have ncf:=ne_of_lt A;have st:∀a o,a≠P->H a=Φ o->upd (upd (upd H P (.tbl (w ++ #[rawInt lpos.line,rawInt lpos.col,.ref g]))) g (.frz x (.own 0))) h.objs.size (.frz B (.own 0)) a=Φ o:=λa o n e=>by rw[zaf (zam e hfn),zaf (zam e hcn),zaf n];exact e
  have G:upd (upd (upd H P (.tbl (w ++ #[rawInt lpos.line,rawInt lpos.col,.ref g]))) g (.frz x (.own 0))) h.objs.size (.frz B (.own 0)) P=Φ (.tbl (w ++ #[rawInt lpos.line,rawInt lpos.col,.ref g])):=by rw[zaf nPf,zaf nPc,zag]
  have atC:upd (upd (upd H P (.tbl (w ++ #[rawInt lpos.line,rawInt lpos.col,.ref g]))) g (.frz x (.own 0))) h.objs.size (.frz B (.own 0)) g=Φ (.frz x (.own 0)):=by rw[zaf ncf,zag]
  have J:∀a,H a=Ψ->a≠P:=λa e z=>by rw[z,k]at e;cases e
  have l:∀b o,b≠P->s.heap.get? b=Φ o->(h.push B).get? b=Φ o:=λb o n e=>Λ _ (hx b o n e);have inv:Inv X pins σ (upd (upd (upd H P (.tbl (w ++ #[rawInt lpos.line,rawInt lpos.col,.ref g]))) g (.frz x (.own 0))) h.objs.size (.frz B (.own 0))) {s with heap:=h.push B,toks:=U}:=by refine I.call (ch:=[]) ⟨λb o e n _ _=>l b o (J b n) e,λb o e n _ _=>⟨o.slots,l b o (J b n) e⟩,λb o e n _=>?_,λb o e _=>?_,λb xs e=>?_,λb o u e=>?_,λb ps' e=>?_⟩ ?_ I.bare (λb i=>by cases i);have i:=Β e;rw[zaf (ne_of_lt (lt_trans (lt_of_lt_of_le i m) A)),zaf (ne_of_lt (lt_of_lt_of_le i m)),zaf (J b n)];exact n;by_cases z:b=P;subst z;exact⟨_,Λ _ htb⟩;exact⟨o,l b o z e⟩;exact st b _ (λz=>by rw[z,k]at e;cases e) e;exact st b _ (λz=>by rw[z,k]at e;cases e) e;by_cases z:b=P;subst z;rw[k]at e;cases e;exact⟨_,G⟩;exact⟨#[],by rw[st b _ z e];simp⟩;intro a u e;by_cases zf:a=h.objs.size;subst zf;rw[zag]at e;cases e;exact⟨hfr,_,hfr⟩;rw[zaf zf]at e;by_cases zc:a=g;subst zc;rw[zag]at e;cases e;exact⟨Λ _ hoc,_,Λ _ hoc⟩;rw[zaf zc]at e;by_cases zp:a=P;subst zp;rw[zag]at e;cases e;exact Λ _ htb;rw[zaf zp]at e;refine(I.hok a u e).stay (λb o i r=>l b o ?_ r) (λb r=>st b _ (λz=>by rw[z,k]at r;cases r) r) λb xs r=>st b _ (λz=>by rw[z,k]at r;cases r) r;rcases i with rfl|i;exact zp;intro z;rw[z,k]at i;cases i
  refine q _ _ _ inv ⟨_,j,g,x,vs,t,by rw[zag,<-hfo],atC,hd,hv⟩ ?_ ⟨λa o n e=>st a o n e,λps' e=>by rw[k]at e;cases e;exact⟨_,G⟩⟩;refine⟨_,G,?_,λpos v e=>?_⟩;have:=TriplesOk_snoc lpos.line lpos.col (.ref g) w.toList N;simpa using this;have r:codeAmong pos (w.toList++[rawInt lpos.line,rawInt lpos.col,.ref g])=Φ v:=by simpa using e
  rcases zfa N r with z|z;let⟨d,od,ws,u,a1,T,a3⟩:=h3 pos v z;exact⟨d,od,ws,u,a1,st _ _ (λy=>by rw[y,k]at T;cases T) T,a3⟩;exact⟨g,x,vs,t,z,atC,hd,hv⟩
end
abbrev oneK(k:VK)(vs:List V)(H:Hp):Prop:=match vs with | [w]=>k w H|_=>False
def zho(h:oneK k vs H):∃w,vs=[w]/\k w H:=by unfold oneK at h;split at h;exact⟨_,rfl,h⟩;exact h.elim
abbrev tLam(q:Str)(a:Arguments)(b:Expr)(scope:Scope):TE:=λd H Q=>TB H/\∀f c,LamAt c f "<lambda>" q a b scope->Ext [] H [] c->Q (.ref f) c
section
variable{X:Cx}{o:Expr}{p apos cpos kpos lpos pos:Pos}{td:TE}{c P:Addr}{params:Arguments}{body:Expr}{scope:Scope}
def zrp(mk:Maker X c P)(a:defaultsOf params X.env=([],[]))(d:closureFor scope X.env=pure []):PE X (.Lambda params body scope lpos) (tLam (X.env.qual ++ "<lambda>") params body scope):=by intro i s m H Q I h;let⟨n,j,_⟩:=id (h.1 _ mk.mem);refine zma I mk.bm mk.code mk.hd (h.1 _ mk.mem) a d λf k q J L T S=>⟨.ref f,k,J,rfl,h.2 f k L (S.ext j λp g=>?_)⟩;by_cases z:p.1=P;rw[mk.one p g z,z];exact T;let⟨r,l,_⟩:=id (h.1 p g);exact(h.1 p g).up ((S.rest _ _ z l).trans l.symm) λb o u e=>S.rest b _ (λy=>by rw[y]at e;rw[j]at e;cases e) e
end
end R
namespace R
open PySem PySem.Spec PyProof.Rows L2
section
variable{ρ:Type}{lt:ρ->ρ->Prop}[DecidableRel lt]
structure Ord(lt:ρ->ρ->Prop):Prop where
 irr:∀r,¬lt r r
 tra:∀{a b c},lt a b->lt b c->lt a c
def zpG(o:Ord lt){rows:List ρ}(as:rows.Pairwise lt){i j:Nat}(f:rows[i]?=Φ a)(g:rows[j]?=Φ b):lt a b↔i<j:=by let⟨c,rfl⟩:=Α.mp f;let⟨d,rfl⟩:=Α.mp g;have e:=List.pairwise_iff_getElem.mp as;refine⟨λh=>?_,e i j c d⟩;rcases Nat.lt_trichotomy i j with z|z|z;exact z;subst z;exact absurd h (o.irr _);exact absurd (o.tra h (e j i d c z)) (o.irr _)
end
variable[Mks]
section
variable{ρ:Type}[Inhabited ρ]{lt:ρ->ρ->Prop}[DecidableRel lt]{RA KA:Hp->Addr->ρ->Prop}{κ:SortKind}
variable{X:Cx}{pins:List (Addr×Obj)}{σ:L2.St}{H:Hp}{s:Ζ}{A':ϐ}{f D kS:Addr}{rows:List ρ}
structure SortK(X:Cx)(pins:List (Addr×Obj))(σ:L2.St)(A':ϐ)(H:Hp)(f:Addr)(RA KA:Hp->Addr->ρ->Prop)(κ:SortKind)(lt:ρ->ρ->Prop)[DecidableRel lt]:Prop where
 upR:∀{H1 H2 a r},Kp H1 H2->RA H1 a r->RA H2 a r
 upK:∀{H1 H2 b r},Kp H1 H2->KA H1 b r->KA H2 b r
 call:∀{H1 s1 a r},Inv X pins σ H1 s1->Ext [] H [] H1->RA H1 a r->wpAny (model X.prog X.w) A' (call (.ref f) [.ref a]) (λy s'=>∃b H',y=.ref b/\Inv X pins σ H' s'/\KA H' b r/\Ext [] H1 [] H'/\Un (frs X.stack) [] H1 H' s1.heap s'.heap) (λ_ _=>False) s1
 kind:∀{H1 s1}{ks:List Ξ}{Q:SortKind->Ζ->Prop}{E:Ξ->Ζ->Prop},Inv X pins σ H1 s1->(∀k∈ks,∃b r,k=Ξ.ref b/\KA H1 b r)->1<=ks.length->Q κ s1->wpAny (model X.prog X.w) A' (keyKind' ks.toArray) Q E s1
 less:∀{H1 s1 b c r r'}{Q:Bool->Ζ->Prop}{E:Ξ->Ζ->Prop},Inv X pins σ H1 s1->KA H1 b r->KA H1 c r'->Q (decide (lt r r')) s1->wpAny (model X.prog X.w) A' (keyLt' κ (.ref b) (.ref c)) Q E s1
 ord:Ord lt
structure KeyG(KA:Hp->Addr->ρ->Prop)(rows:List ρ)(H:Hp)(ks:List Ξ)(i:Nat):Prop where
 len:ks.length=i
 at_:∀(j:Nat)(k:Ξ),ks[j]?=Φ k->∃(b:Addr) (r:ρ),rows[j]?=Φ r/\k=Ξ.ref b/\KA H b r
def KeyG.snoc(e:SortK X pins σ A' H f RA KA κ lt)(K:KeyG KA rows g ks i)(x:Ext [] g [] d)(l:rows[i]?=Φ r)(m:KA d b r):KeyG KA rows d (ks++[.ref b]) (i+1):=by
 refine⟨by simp[K.len],λj k a=>?_⟩;by_cases h:j<ks.length;rw[getElem?_append_left h]at a;let⟨c,q,n,o,p⟩:=K.at_ j k a;exact⟨c,q,n,o,e.upK x.kp p⟩;have:j=ks.length:=by have:=(Α.mp a).1;simp at this;lia
 subst this;simp at a;exact⟨b,r,by rw[K.len];exact l,a.symm,m⟩
structure KJG(KA:Hp->Addr->ρ->Prop)(X:Cx)(pins:List (Addr×Obj))(σ:L2.St)(H:Hp)(D kS:Addr)(e1:Nat)(rows:List ρ)(i:Nat)(s':Ζ):Prop where
 ex:∃H' ks e,Inv X pins σ H' s'/\Ext [] H [] H'/\H' D=Ψ/\H' kS=Ψ/\zgj s' D [] e1/\zgj s' kS ks e/\KeyG KA rows H' ks i
def zmc(h:SortK X pins σ A' H f RA KA κ lt){u i:Nat}{a:Addr}{r:ρ}(oD:Own X pins D)(v:Own X pins kS)(L:D≠kS)(M:RA H a r)(j:rows[i]?=Φ r)(Y:i<64){s':Ζ}(J:KJG KA X pins σ H D kS u rows i s'){items:Array Ξ} :
  wpAny (model X.prog X.w) A' (do
   match <-(call (.ref f) [.ref a]).attempt with
   |.ok k=>Builtin.List.listUpdate (.ref kS) (·.push k);pure (ForInStep.yield PUnit.unit)| .error e=>
    rule "list.sort.key-raised"
    let c <-Builtin.List.listItems (.ref kS)
    Builtin.List.listUpdate (.ref kS) λ_=>#[]
    letGo c.toList.reverse [e]
    Builtin.List.listUpdate (.ref D) λ_=>items;throw e) (λq l=>q=.yield ⟨⟩/\KJG KA X pins σ H D kS u rows (i+1) l) (λ_ _=>False) s':=by
 let⟨H1,m,e,I,x,w,n,A,p,B⟩:=J.ex;refine Θ (wpAny_attempt (Τ (h.call I x (h.upR x.kp M)) ?_ λ_ _ z=>z.elim));rintro y N ⟨b,O,rfl,C,t,E,d⟩;have Q:=d.keep D _ A w (oD.stk I) (by simp);have G:=d.keep kS _ p n (v.stk I) (by simp);have hz:=B.len;refine Θ (listUpdate_at G rfl (Ω ⟨rfl,?_⟩) (by rw[size_toArray,Χ];lia) (by rw[Array.size_push,size_toArray,Χ];lia));let⟨T,U⟩:=zeR (us:=m++[.ref b]) G (·.push (.ref b)) (by simp);refine⟨O,m++[.ref b],T,?_,x.trans E,d.free D _ A w (by simp),d.free kS _ p n (by simp),zbU L Q,U,B.snoc h E j t⟩;exact za5 C (λb g=>by rw[mem_singleton.mp g];exact v) (λb g=>by rw[mem_singleton.mp g];exact d.free kS _ p n (by simp)) (λb o g q=>zbU (by simpa using g) q) C.bare
def zqi{st}(d:(arrOf st).map (·.2)=out.toArray)(hz:out.length<64)(l:i<64)(hf:failedOf st=Ψ)(oD:Own X pins D)(m:Own X pins kS)(n:D≠kS)(J:KJG KA X pins σ H D kS j rows i s)(h:∀s',KEnd X pins σ H D out s'->P (.done (.ret .none)) s'):wpAny (model X.prog X.w) A' (ksk_tail D Δ j (.ref kS) st) P E s:=by
 let⟨p,r,e,I,x,k,t,u,v,w⟩:=J.ex;have B:r.length<64:=by rw[w.len];exact l
 have y:=za5 (h':=s.heap.update kS (Obj.mapSeq λ_=>#[])) (g':=s.gens) (t':=s.toks) (d':=s.drawn) (ch:=[kS]) I (λb a=>by rw[mem_singleton.mp a];exact m) (λb a=>by rw[mem_singleton.mp a];exact t) (λb o a q=>zbU (by simpa using a) q) I.bare;have c:zgj {s with heap:=s.heap.update kS (Obj.mapSeq λ_=>#[])} D [] j:=zbU n u;let⟨z,g⟩:=zeR (us:=out) c (λ_=>out.toArray) rfl;have A:=za5 (h':=(s.heap.update kS (Obj.mapSeq λ_=>#[])).update D (Obj.mapSeq λ_=>out.toArray)) (g':=s.gens) (t':=s.toks) (d':=s.drawn) (ch:=[D]) y (λb a=>by rw[mem_singleton.mp a];exact oD) (λb a=>by rw[mem_singleton.mp a];exact k) (λb o a q=>zbU (by simpa using a) q) I.bare;unfold ksk_tail;rw[d,hf];refine Θ (listUpdate_at v rfl (Θ (wpAny_letGo (Θ (seqEpoch_at c rfl (Θ (listUpdate_at c rfl ?_ (by simp) (by simp![Bool.false_eq_true,if_false,size_toArray,Χ];lia))))))) (by rw[size_toArray,Χ];lia) (by simp));simp![bne_self_eq_false,Bool.false_eq_true,if_false];exact Ω (h _ ⟨p,z,A,x,k,g⟩)
def endG(u:SortK X pins σ A' H f RA KA κ lt)(q:vs.length=rows.length)(m:rows.length<64)(v:rows.Pairwise lt)(oD:Own X pins D)(y:Own X pins kS)(A:D≠kS)(J:KJG KA X pins σ H D kS M rows rows.length s)(h:∀s',KEnd X pins σ H D vs s'->P (.done (.ret .none)) s'):
  wpAny (model X.prog X.w) A' (Builtin.List.listItems (.ref kS)>>=λn=>ksk_end D Δ vs.toArray M (.ref kS) n) P E s:=by
 let⟨N,d,e,I,x,d1,k1,lD,O,t⟩:=id J.ex;refine Θ (listItems_at O rfl ?_);unfold ksk_end;simp![if_false];have g:d.length=vs.length:=by rw[t.len,q]
 by_cases l:vs.toArray.size<2;rw[if_pos l,if_pos l];have o:rows.length<2:=by rw[<-q];simpa using l
 refine Θ (Ω (Θ ?_));have w:(arrOf (SortSt.mk' general' (d.toArray.zip vs.toArray) #[] 7 Ψ)).map (·.2)=vs.toArray:=by apply Array.toList_inj.mp;rw[Array.toList_map,ksk_zip];exact List.map_snd_zip (by lia)
 exact Ω (zqi w (by lia) m rfl oD y A J h);have o:2<=vs.length:=by simpa using l
 rw[if_neg l,if_neg l];have T:∀k∈d,∃b r,k=Ξ.ref b/\KA N b r:=λk U=>by let⟨j,B⟩:=mem_iff_getElem?.mp U;let⟨b,r,_,Y,q2⟩:=t.at_ j k B;exact⟨b,_,Y,q2⟩
 refine Θ (u.kind I T (by lia) ?_);have er:((List.range rows.length).map λi=>vs.getD i Ξ.none)=vs:=by apply List.ext_getElem;simp[q];intro i g1 g2;simp[g2]
 refine Θ (Τ (PySem.W.kat_run (Q:=λa s'=>s'=s/\arrOf a=(List.range rows.length).toArray.map (PySem.W.kas_item (d.toArray.zip vs.toArray))/\failedOf a=Ψ)
  (G:=λp s'=>p=(List.range rows.length).toArray/\s'=s) g o (by lia) (λp a s' _ a2 a3 L=>⟨L.2,by rw[a2,L.1],a3⟩) ?_) ?_ λ_ _ z=>z)
 rw[q];refine znN (λi j C hi B hC=>?_) (by lia) ⟨rfl,rfl⟩;let⟨b,r,b1,b2,b3⟩:=t.at_ i _ (getD_mem Ξ.none (by lia));let⟨c,r',c1,c2,c3⟩:=t.at_ j _ (getD_mem Ξ.none (by lia));show wpAny (model X.prog X.w) A' (keyLt' κ (d.getD i Ξ.none) (d.getD j Ξ.none)) C (λ_ _=>False) s;rw[b2,c2];refine u.less I b3 c3 ?_;have:decide (lt r r')=decide (i<j):=by apply Bool.eq_iff_iff.mpr;rw[decide_eq_true_eq,decide_eq_true_eq];exact zpG u.ord v b1 c1
 rw[this];exact hC;rintro⟨⟨⟩,a⟩ s' ⟨rfl,ar,fl⟩;have w:=PySem.W.kat_snds g ar;refine zqi (w.trans ?_) (by lia) m fl oD y A J h;rw[er]
def ztq{as:List Addr}(m:SortK X pins σ A' H f RA KA κ lt)(n:as.length=rows.length)(e:rows.length<64)(g:rows.Pairwise lt)(oD:Own X pins D)(o:Own X pins kS)(p:D≠kS)(t:∀(j:Nat)(a:Addr),as[j]?=Φ a->∃r:ρ,rows[j]?=Φ r/\RA H a r)(J:KJG KA X pins σ H D kS q rows 0 s)(h:∀s',KEnd X pins σ H D (as.map Ξ.ref) s'->P (.done (.ret .none)) s'):
  wpAny (model X.prog X.w) A' (ksk_rest D (.ref f) Δ (as.map Ξ.ref).toArray q (.ref kS)) P E s:=by
 refine Θ (wpAny_rule ?_);rw[List.forIn_toArray];refine Θ (ksk_fold (λi s'=>KJG KA X pins σ H D kS q rows i s') (as.map Ξ.ref) 0 s J (λj v s' b c=>?_) λs' c=>?_);rw[getElem?_map]at b;cases k:as[j]? with
 |none=>rw[k]at b;exact nS b
 |some a=>rw[k]at b;cases b;let⟨r,d,l⟩:=t j a k;have u:=(Α.mp d).1;rw[zero_add]at c⊢;exact Τ (zmc m oD o p l d (by lia) c) (λ_ _ z=>z) λ_ _ z=>z.elim
 rw[zero_add,length_map,n]at c;exact endG m (by simpa using n) e g oD o p c h
def zs9{as:List Addr}(I:Inv X pins σ H s)(w:SortK X pins σ A' H f RA KA κ lt)(m:as.length=rows.length)(d:rows.length<64)(i:rows.Pairwise lt)(oD:Own X pins D)(n:H D=Ψ)(g:zgj s D (as.map Ξ.ref) C)(x:∀(j:Nat)(a:Addr),as[j]?=Φ a->∃r:ρ,rows[j]?=Φ r/\RA H a r)(h:∀s',KEnd X pins σ H D (as.map Ξ.ref) s'->P (.done (.ret .none)) s'):wpAny (model X.prog X.w) A' (ksk_tree D (.ref f) Δ) P E s:=by
 let⟨G,p⟩:=zeR g (λ_=>#[]) rfl;have hD:=Β g;have y:=za5 (h':=s.heap.update D (Obj.mapSeq λ_=>#[])) (t':=s.toks) (d':=s.drawn) I (λb c=>by rw[mem_singleton.mp c];exact oD) (λb c=>by rw[mem_singleton.mp c];exact n) (λb o c q=>zbU (by simpa using c) q) I.bare;have t:∀(e u:Obj) b o,(s.heap.update D (Obj.mapSeq λ_=>#[])).get? b=Φ o->(((s.heap.update D (Obj.mapSeq λ_=>#[])).push e).push u).get? b=Φ o:=λe u b o q=>Λ _ (Λ _ q);have l:∀e:Obj,((s.heap.update D (Obj.mapSeq λ_=>#[])).push e).objs.size=s.heap.objs.size+1:=λe=>by rw[size_push',Heap.size_update]
 have v:(as.map Ξ.ref).length<64:=by rw[length_map,m];exact d
 refine Θ (listItems_at g rfl (Θ (listUpdate_at g rfl (Θ (seqEpoch_at p rfl (Θ (wpAny_newTuple (Θ (wpAny_newList (ϓ ?_) (zero_le _))) (by rw[Χ];lia))))) (by rw[size_toArray,Χ];lia) (zero_le _))));have z:=za5 (h':=((s.heap.update D (Obj.mapSeq λ_=>#[])).push (seqObj "tuple" (as.map Ξ.ref).toArray 0)).push (seqObj "list" #[] 0)) (t':=s.toks) (d':=s.drawn) (ch:=[]) y (λb c=>by cases c) (λb c=>by cases c) (λb o _ q=>t _ _ b o q) I.bare;have A:Own X pins ((s.heap.update D (Obj.mapSeq λ_=>#[])).push (seqObj "tuple" (as.map Ξ.ref).toArray 0)).objs.size:=by rw[l];exact Own.fresh I (le_succ _)
 refine ztq w m d i oD A (by rw[l];exact ne_of_lt (ϡ hD)) x ?_ h;exact⟨H,[],0,z,Ext.refl _ _,n,I.hok.fresh (by rw[l];exact le_succ _),t _ _ _ _ p,Ι _ rfl,rfl,λj k B=>by simp at B⟩
end
end R
namespace R
open PySem PySem.Spec PyProof.Rows L2
section
variable{prog:Ο}{w:ϋ}{A:ϐ}{E:Ξ->Ζ->Prop}{s:Ζ}
abbrev IsPr(prog:Ο)(w:ϋ)(h:Heap)(k:K3)(a:Addr):Prop:=k.1=0/\∃o u b n,h.get? a=Φ o/\o.cls=.type "tuple"/\o.data=.seq #[.ref b,.int k.2.2 u] n/\IsTupleKey (zat prog w) h (k.2.1.map Sum.inl) b
def ztw(o:A.units<cLine)(t:IsPr prog w s.heap x a)(u:IsPr prog w s.heap y b)(q:Q (decide (Lt3 x y)) s):
  wpAny (model prog w) A (keyLt' (tuples' Δ) (.ref a) (.ref b)) Q E s:=by
 let⟨p,H,I,J,L,l,_,i,c⟩:=t;let⟨r,M,N,O,T,m,_,j,d⟩:=u;let⟨U,e,f⟩:=x;let⟨Y,g,h⟩:=y;subst p r;refine PySem.W.kat_lt l i m j (kat_cons (wpAny_eqBool_tuple o c d ?_));by_cases k:e=g;rw[show decide ((e.map Sum.inl:List Key)=g.map Sum.inl)=Γ from decide_eq_true (by rw[k])];refine PySem.W.kat_yes (kat_cons (wpAny_eqBool_int ?_));by_cases n:f=h;rw[show(f==h)=Γ by simp[n]];refine PySem.W.kat_yes (PySem.W.kat_nil ?_);rw[decide_eq_false (by subst k n;exact zeo _)]at q;exact q;rw[show(f==h)=Δ by simp[n]];refine kat_no (kat_one _ _ (wpAny_lt_int ?_));have:decide (Lt3 (0,e,f) (0,g,h))=decide (f<h):=by apply Bool.eq_iff_iff.mpr;rw[decide_eq_true_eq];subst k;unfold Lt3;rw[zcL];simp
 rw[this]at q;exact q;rw[show decide ((e.map Sum.inl:List Key)=g.map Sum.inl)=Δ from decide_eq_false (λz=>k (zpe z))];let⟨i1,v,B⟩:=zi4 c;let⟨i2,C,G⟩:=zi4 d;refine kat_no (kat_one _ _ (HT.lt_tupInts v C B G o ?_));have:decide (Lt3 (0,e,f) (0,g,h))=HT.lexLt e g:=by rw[<-zj5];apply Bool.eq_iff_iff.mpr;unfold Lt3;simp[k]
 rw[this]at q;exact q
def zjE:∀{vs:List Ξ},(∀v∈vs,∃c k,v=Ξ.ref c/\IsPr prog w h k c)->∃a:List Ξ,KatTups h vs a/\a.length=vs.length/\∀v∈a,∃(b:Addr) (ks:List Key),v=Ξ.ref b/\IsTupleKey (zat prog w) h ks b
 | [],_=>⟨[],KatTups.nil,rfl,λv h=>by cases h⟩| v::vs,e=>by let⟨c,k,rfl,z,o,u,b,n,f,g,i,j⟩:=e v (by simp);let⟨a,l,m,p⟩:=zjE (vs:=vs) λx q=>e x (by simp[q]);refine⟨.ref b::a,KatTups.cons f g i rfl l,by simp[m],λv d=>?_⟩;rcases mem_cons.mp d with rfl|d;exact⟨b,_,rfl,j⟩;exact p v d
def zox{vs:List Ξ}(hk:∀v∈vs,∃c k,v=Ξ.ref c/\IsPr prog w s.heap k c)(i:1<=vs.length)(q:Q (tuples' Δ) s):wpAny (model prog w) A (keyKind' vs.toArray) Q E s:=by let⟨j,d,l,e⟩:=zjE hk;refine PySem.W.kat_kind (T:=.type "tuple") d (by lia) (λv f=>?_) rfl q;let⟨b,m,rfl,o,a,n,g,h,p,r⟩:=e v f;have:PySem.W.Looks (model prog w) s.heap (typeOf (.ref b)) o.cls:=(PySem.W.Looks.ld g).andThen .now;rw[h]at this;exact this
end
abbrev Key2(H:Hp)(c:Addr)(k:K3):Prop:=k.1=0/\∃b,H c=Φ (.tup [.ref b,.int k.2.2])/\H b=Φ (.tup (k.2.1.map V.int))
abbrev Let2(H:Hp)(a:Addr)(k:K3):Prop:=k.1=0/\∃t b w,H a=Φ (.tup [t,.ref b,.int k.2.2,w])/\H b=Φ (.tup (k.2.1.map V.int))
def zgJ(ok:HOk P w H h)(e:Key2 H c k):IsPr P w h k c:=by let⟨z,b,f,g⟩:=e;let⟨_,i,d,o,j,l,n,m⟩:=(show ObjOk P w H h c (.tup _) from ok c _ f);cases d with| @cons _ p _ s q d=>cases d with| @cons _ t _ v r d=>cases d;cases(show p=Ξ.ref b from q);let⟨u,rfl⟩:=r;refine⟨z,o,u,b,n,j,l,m,?_⟩;have:=zhE (ks:=k.2.1.map Sum.inl) ok (by rw[ϒ];exact g);exact this
variable[Mks]
structure KeyBody(body:Expr):Prop where
 ex:∃p1 p2 p3 p4 p5 j1 j2,body=.Subscript (.Name "letter" p1) (.Slice (Φ (.Constant (.int 1) j1 p2)) (Φ (.Constant (.int 3) j2 p3)) Ψ p4) p5
section
variable{X:Cx}{pins:List (Addr×Obj)}{σ:L2.St}{H:Hp}{s:Ζ}{A':ϐ}{f:Addr}{name qual:Str}{params:Arguments}{body:Expr}{scope:Scope}
def zl9(I:Inv X pins σ H s)(A:Room 2 A')(B:Env0 X.prog X.w X.K X.mg X.base A' X.stack s H)(L:LamAt H f name qual params body scope)(hs:FnScope ["letter"] ["letter"] scope)(C:∀(d G ct u:Ξ),bindArgs (kla_fn name qual params body scope [] d G ct) ⟨[u],[]⟩=pure [(("letter":Str),u)])(J:KeyBody body)(M:Let2 H a k):
  wpAny (model X.prog X.w) A' (call (.ref f) [.ref a]) (λy s'=>∃b H',y=.ref b/\Inv X pins σ H' s'/\Key2 H' b k/\Ext [] H [] H'/\Un (frs X.stack) [] H H' s.heap s'.heap) (λ_ _=>False) s:=by
 let⟨d,ct,j,N,vs,t,O,T,U,Y⟩:=L.ex;have of:=(I.hok f _ O).1;have oo:=(I.hok j _ T).1;let⟨p1,p2,p3,p4,p5,j1,j2,rfl⟩:=J.ex;let⟨z,tt,l,ww,e1,m⟩:=M;refine ϟ (ϕ (zo9 (CX:=CX0) (E:=λ_ _ _=>False) (Q:=λw H'=>∃b,w=V.ref b/\Key2 H' b k/\Ext [] H [] H') hs A B of ⟨j,N,vs,t,rfl,oo,U,Y⟩
  (.of_eq (C d _ ct _)) (.cons (show L2.RelV (.ref a) (.ref a) from rfl) .nil) rfl (λhr'=>zlP zqB (zem (i:=0) rfl ((hs.par "letter" (by simp)).elim .inl λq=>.inr (.inl q))) (zjG zjN) (zjG zjN)) ?_) λr s' q=>?_)
 refine⟨.ref a,rfl,1,rfl,3,rfl,a,[tt,.ref l,.int k.2.2,ww],rfl,.inl (Rd.of e1),(λz=>absurd (show(1:Nat)=0 from z.1) (by decide)),λp n=>⟨p,rfl,⟨z,l,zag,?_⟩,zkI n⟩⟩;rw[zaf (zam m n)];exact m;cases r with
 |error e=>exact q.elim| ok fl=>
  cases fl with
  |ret y=>
   let⟨w,H',os,c,o,g,v,b,rfl,h,x⟩:=q;cases y with
   |ref z=>
    have:z=b:=by simpa[L2.RelV]using v
    exact⟨b,H',by rw[this],I.call' os o g c (λb z=>absurd z (by simp)),h,x,o⟩
   |_=>simp[L2.RelV]at v
  |_=>exact q.elim
def ord3:Ord Lt3:=⟨zeo,λh k=>zj0 h k⟩
def zqz(d:Room 2 A')(g:∀H s,Inv X pins σ H s->Env0 X.prog X.w X.K X.mg X.base A' X.stack s H)(L:LamAt H f name qual params body scope)(hs:FnScope ["letter"] ["letter"] scope)
  (h:∀(i l ct u:Ξ),bindArgs (kla_fn name qual params body scope [] i l ct) ⟨[u],[]⟩=pure [(("letter":Str),u)]) (m:KeyBody body):SortK X pins σ A' H f Let2 Key2 (tuples' Δ) Lt3 where
 upR:=λk j=>(by let⟨z,t,b,w,a,c⟩:=j;exact ⟨z,t,b,w,k.tups _ _ a,k.tups _ _ c⟩)
 upK:=λk y=>(by let⟨z,b,a,c⟩:=y;exact ⟨z,b,k.tups _ _ a,k.tups _ _ c⟩)
 call:=λI x n=>zl9 I d (g _ _ I) (L.up x.kp) hs h m n
 kind:=λI o a q=>zox (λv p=>let ⟨b,r,e,k⟩:=o v p;⟨b,r,e,zgJ I.hok k⟩) a q
 less:=λI a c q=>ztw (by have:=d.un;lia) (zgJ I.hok a) (zgJ I.hok c) q
 ord:=ord3
end
section
variable{X:Cx}{pins:List (Addr×Obj)}{σ:L2.St}{H:Hp}{s:Ζ}{f a:Addr}{as:List Addr}{ks:List K3}{name qual:Str}{params:Arguments}{body:Expr}{scope:Scope}
structure Srd(X:Cx)(pins:List (Addr×Obj))(σ:L2.St)(H:Hp)(as:List Addr)(D:Addr)(s':Ζ):Prop where
 ex:∃(H':Hp),Inv X pins σ H' s'/\Ext [] H [] H'/\H D=Ψ/\H' D=Φ (.lst (as.map V.ref))
def zef:∀{l:List Addr}{m:List Ξ},Vals (l.map V.ref) m->m=l.map Ξ.ref
 | [],_,h=>by cases h;rfl| x::l,_,h=>by cases h with|cons b c=>rw[Υ,<-zef c,show _=Ξ.ref x from b]
def zcW:∀l:List Addr,Vals (l.map V.ref) (l.map Ξ.ref)
 | []=>.nil|_::l=>.cons rfl (zcW l)
def zic(I:Inv X pins σ H s)(hh:X.A.handled=Ψ)(r:Room 2 X.A.in1.in1)(L:LamAt H f name qual params body scope)(hs:FnScope ["letter"] ["letter"] scope)(c:∀(t v ct u:Ξ),bindArgs (kla_fn name qual params body scope [] t v ct) ⟨[u],[]⟩=pure [(("letter":Str),u)])(w:KeyBody body)(x:SqL X.K H a (as.map V.ref))(y:as.length=ks.length)(h:ks.length<64)(nd:ks.Pairwise Lt3)(z:∀(j:Nat)(b:Addr),as[j]?=Φ b->∃k,ks[j]?=Φ k/\Let2 H b k)(q:∀D s',Srd X pins σ H as D s'->Q (.ref D) s'):
  wpAny (model X.prog X.w) X.A (call (.builtin "sorted") [.ref a] [(Str.ofString "key",.ref f)]) Q E s:=by
 let⟨A,B,C,hz⟩:=I.list x;have G:=zef B;subst G;refine call_function_entry_kw kind_sorted plain_sorted entry_sorted (ksk_s1 _ _) ?_;refine Θ (Ω (Θ ?_));refine collect_list C.isList ?_ (by rw[length_map,Χ];lia);have M:∀b o,s.heap.get? b=Φ o->((s.heap.push (seqObj "list" #[] 0)).update s.heap.objs.size (Obj.mapSeq (·++(as.map Ξ.ref).toArray))).get? b=Φ o:=λb o e=>(Ρ _ _ (ne_of_gt (Β e))).trans (Λ _ e);have N:s.heap.objs.size<=((s.heap.push (seqObj "list" #[] 0)).update s.heap.objs.size (Obj.mapSeq (·++(as.map Ξ.ref).toArray))).objs.size:=by rw[Heap.size_update,ϔ];exact le_succ _
 generalize(s.heap.push (seqObj "list" #[] 0)).update s.heap.objs.size (Obj.mapSeq (·++(as.map Ξ.ref).toArray))=d at *;refine Θ (wpAny_newList ?_ (by rw[length_map,Χ];lia));have i:=za5 (g':=s.gens) (t':=s.toks) (d':=s.drawn) (ch:=[]) I (λb c=>by cases c) (λb c=>by cases c) (λb o _ e=>M b o e) I.bare;have O:Inv X pins σ H {s with heap:=d.push (seqObj "list" (as.map Ξ.ref).toArray 0)}:=za5 (s:={s with heap:=d}) (g':=s.gens) (t':=s.toks) (d':=s.drawn) (ch:=[]) i (λb c=>by cases c) (λb c=>by cases c) (λb o _ e=>Λ _ e) I.bare;have n:zgj {s with heap:=d.push (seqObj "list" (as.map Ξ.ref).toArray 0)} d.objs.size (as.map Ξ.ref) 0:=Ι _ rfl;have oD:=Own.fresh i (le_refl _);have p:=i.hok.fresh (le_refl _);refine Θ (ϓ (wpAny_call_entry_kw slot_list_sort ⟨_,n,rfl⟩ entry_list_sort ?_ (ksk_l1 _ _)));refine zs9 (as:=as) (rows:=ks) O (zqz r (λH s J=>J.env0.in1.in1) L hs c w) y h nd oD p n z λs' T=>⟨_,rfl,?_⟩;refine Ω ⟨_,rfl,q _ s' ?_⟩;let⟨U,e,J,Y,g,l⟩:=T.ex;exact⟨upd U d.objs.size (.lst (as.map V.ref)),zfP J oD g ⟨by lia,_,e,zcW _,l⟩,Y.trans (zkI g),p,zag⟩
end
abbrev SrtK(K:PySem.W.Frag)(Q:VK)(w:V)(c:Hp):Prop:=∃(a:Addr) (d:List Addr) (e:List K3),w=.ref a/\SqL K c a (d.map V.ref)/\d.length=e.length/\e.length<64/\e.Pairwise Lt3/\(∀(j:Nat)(b:Addr),d[j]?=Φ b->∃k,e[j]?=Φ k/\Let2 c b k)/\TB c/\
 ∀(D:Addr)(f:Hp),Ext [] c [] f->c D=Ψ->f D=Φ (.lst (d.map V.ref))->Q (.ref D) f
section
variable{X:Cx}{o:Expr}{p kpos lpos pos:Pos}{td:TE}{c P:Addr}{params:Arguments}{body:Expr}{scope:Scope}
def Let2.up(a:Kp H H')(h:Let2 H b k):Let2 H' b k:=let ⟨z,t,b,w,d,e⟩:=h;⟨z,t,b,w,a.tups _ _ d,a.tups _ _ e⟩
def SqL.up0{K}(x:Ext [] H [] H')(h:SqL K H a xs):SqL K H' a xs:=by rcases h with (h|⟨o,h⟩)|h;rcases(x.rest a _ (by simp) h).1 with z|⟨⟨_,z⟩,_⟩;exact .inl (.inl z);cases z;rcases(x.rest a _ (by simp) h).1 with z|⟨⟨_,z⟩,_⟩;exact .inl (.inr ⟨o,z⟩);cases z;exact .inr h
def zoC(E:PE X o td)(g:zai o=Γ)(G:Gl X "sorted")(J:X.mg "sorted"=Ψ)(A:Room 2 X.A.in1.in1)(mk:Maker X c P)(i:defaultsOf params X.env=([],[]))(n:closureFor scope X.env=pure [])(hs:FnScope ["letter"] ["letter"] scope)
  (M:∀(N O ct u:Ξ),bindArgs (kla_fn "<lambda>" (X.env.qual ++ "<lambda>") params body scope [] N O ct) ⟨[u],[]⟩=pure [(("letter":Str),u)]) (T:KeyBody body) :
  PE X (.Call (.Name "sorted" p) [o] [⟨Φ "key",.Lambda params body scope lpos,kpos⟩] pos) (λl H Q=>td l H (SrtK X.K Q)):=by
 intro d s l H Q I h;refine ώ (zdG I G J (by rfl:bootBuiltins "sorted"=Φ (.builtin "sorted")) ?_ (by decide) (by decide));have U:=zaT E zcs (zah g _ _);have Y:PK X [⟨Φ "key",.Lambda params body scope lpos,kpos⟩] (zgm (tLam (X.env.qual ++ "<lambda>") params body scope) tNil):=zoz (zrp mk i n) zrg;refine PyProof.Rows.callWith_builtin_kwB (by rw[zah g];rfl) rfl (PyProof.Rows.evalArgs_kw2 rfl (thn (U pos d s l H (oneK (SrtK X.K Q)) I h) λus s1 v=>?_) (zah g _ _));let⟨vs,q,I1,r1,k1⟩:=v;let⟨w,rfl,a,as,ks,ew,hq,hl,r,nd,t,tb,q1⟩:=zho k1;subst ew;let⟨u,rfl,ru⟩:=Vals.one r1;obtain rfl:u=Ξ.ref a:=ru;refine thn (Y pos d s1 l q (oneK λB m=>∃f,B=.ref f/\LamAt m f "<lambda>" (X.env.qual ++ "<lambda>") params body scope/\Ext [] q [] m) I1 ⟨tb,λf m L S=>⟨f,rfl,L,S⟩⟩) λws s2 y=>?_;let⟨zs,m,I2,r2,k2⟩:=y;let⟨B,rfl,f,ef,L,st⟩:=zho k2;subst ef;let⟨u2,rfl,x⟩:=Vals.one r2;obtain rfl:u2=Ξ.ref f:=x;refine zic I2 A.hd A L hs M T (SqL.up0 st hq) hl r nd (λj b e=>let ⟨k,e1,e2⟩:=t j b e;⟨k,e1,e2.up st.kp⟩) λD s3 tl=>?_;let⟨C,I3,x3,dn,dl⟩:=tl.ex;refine⟨.ref D,C,I3,rfl,q1 D C (st.trans x3) ?_ dl⟩;cases e:q D with|none=>rfl| some o=>exfalso;have:=(st.rest D o (by simp) e).1;rw[dn]at this;rcases this with z|⟨_,_,z⟩<;>exact nS z
end
set_option backward.match.sparseCases false
abbrev lamI(k:Int):Expr->Bool|.Constant (.int i) _ _=>decide (i=k)|_=>Δ
abbrev lamV:Expr->Bool|.Name x _=>decide (x="letter")|_=>Δ
abbrev lamS:Expr->Bool|.Slice (Φ a) (Φ b) Ψ _=>lamI 1 a&&lamI 3 b|_=>Δ
abbrev lamA:List Arg->Bool|[⟨a,Ψ,_⟩]=>decide (a="letter")|_=>Δ
abbrev lamB:Expr->Bool
 |.Lambda ⟨[],b,Ψ,[],[],Ψ,[]⟩ (.Subscript v s _) a _=>lamA b&&(lamV v&&(lamS s&&(decide (a.names=[(("letter":Str),NameKind.local)])&&(decide (a.kind=.function)&&(!a.isCoroutine&&!a.isGenerator)))))
 |_=>Δ
set_option backward.match.sparseCases true
structure LamE(params:Arguments)(body:Expr)(scope:Scope):Prop where
 df:∀env,defaultsOf params env=([],[])
 cl:∀env,closureFor scope env=pure []
 sc:FnScope ["letter"] ["letter"] scope
 bd:∀(q:Str)(pm cd ct u:Ξ),bindArgs (kla_fn "<lambda>" q params body scope [] pm cd ct) ⟨[u],[]⟩=pure [(("letter":Str),u)]
 kb:KeyBody body
def lamJ{k:Int}{e:Expr}(h:lamI k e=Γ):∃a p,e=.Constant (.int k) a p:=by
 cases e with
 |Constant c a p=>
  cases c with
  |int i=>cases of_decide_eq_true h;exact⟨_,_,rfl⟩
  |_=>cases h
 |_=>cases h
def lamC{as:List Arg}(h:lamA as=Γ):∃p,as=[⟨"letter",Ψ,p⟩]:=by
 cases as with
 |nil=>cases h
 |cons a r=>
  let⟨a,n,p⟩:=a;cases r with
  |cons _ _=>cases n<;>cases h
  |nil=>
   cases n with
   |some _=>cases h
   |none=>cases of_decide_eq_true h;exact⟨_,rfl⟩
def lamW{e:Expr}(h:lamV e=Γ):∃p,e=.Name "letter" p:=by
 cases e with
 |Name x p=>cases of_decide_eq_true h;exact⟨_,rfl⟩
 |_=>cases h
def lamT{e:Expr}(h:lamS e=Γ):∃a b p,e=.Slice (Φ a) (Φ b) Ψ p/\lamI 1 a=Γ/\lamI 3 b=Γ:=by
 cases e with
 |Slice a b c p=>
  cases a with
  |none=>cases h
  |some a=>
  cases b with
  |none=>cases h
  |some b=>
  cases c with
  |some _=>cases h
  |none=>exact⟨_,_,_,rfl,(Ε _ _).mp h⟩
 |_=>cases h
def zmb(h:lamB e=Γ):∃a c scope d,e=.Lambda a c scope d/\LamE a c scope:=by
 cases e with
 |Lambda j b scope p=>
  let⟨k,I,l,m,n,o,r⟩:=j
  cases k with
  |cons _ _=>cases h
  |nil=>
  cases l with
  |some _=>cases h
  |none=>
  cases m with
  |cons _ _=>cases h
  |nil=>
  cases n with
  |cons _ _=>cases h
  |nil=>
  cases o with
  |some _=>cases h
  |none=>
  cases r with
  |cons _ _=>cases h
  |nil=>
  cases b with
  |Subscript v s J=>
   let⟨t,h⟩:=(Ε _ _).mp h;let⟨w,h⟩:=(Ε _ _).mp h;let⟨z,h⟩:=(Ε _ _).mp h;simp![Ε,decide_eq_true_eq,Ϡ]at h;let⟨f,A,B,C⟩:=h;let⟨_,rfl⟩:=lamW w;let⟨_,_,_,rfl,E,G⟩:=lamT z;let⟨_,_,rfl⟩:=lamJ E;let⟨_,_,rfl⟩:=lamJ G;let⟨_,rfl⟩:=lamC t;refine⟨_,_,scope,_,rfl,⟨λg=>rfl,λg=>?_,⟨A,B,C,by decide,rfl,λx H=>?_,λy i=>?_⟩,λq L M N u=>rfl,⟨_,_,_,_,_,_,_,rfl⟩⟩⟩;unfold closureFor;rw[f];rfl;rw[mem_singleton.mp H,f];exact .inl (by decide);rw[f]at i;rw[mem_singleton.mp i];decide
  |_=>cases h
 |_=>cases h
section
variable{K:PySem.W.Frag}{ι:List Addr}{H H2:Hp}{S:R.St}
def zfR:∀{ds:List D}{xs:List V}{p:List Int},RVs K ι H ds xs->zbr ds=Φ p->xs=p.map V.int
 | [],xs,p,r,e=>by cases(show xs=[] from r);simp[zbr]at e;subst e;rfl| d::ds,xs,p,r,e=>by
  let⟨v,f,rfl,b,c⟩:=r;unfold zbr at e;rw[Ϝ]at e;cases d with
  |int i=>
   cases a:ds.mapM zbz with
   |none=>rw[a]at e;exact nS e
   |some q=>rw[a]at e;cases e;rw[zfR c (show zbr ds=Φ q from a),show v=.int i from b];rfl
  |_=>exact nS e
def zrV(r:RV K ι H d v)(e:zea d=Φ k):∃a,v=.ref a/\Let2 H a k:=by
 cases d with|tup t=>_|_=>exact nS e
 rcases t with _|⟨t,_|⟨y,_|⟨z,_|⟨w,_|_⟩⟩⟩⟩
 any_goals first|exact nS e|(cases y<;>first|exact nS e|(cases z<;>exact nS e))
 cases y with|tup g=>_|_=>exact nS e
 cases z with|int b=>_|_=>exact nS e
 unfold zea at e;dsimp only at e;cases f:zbr g with
 |none=>rw[f]at e;exact nS e
 |some p=>rw[f]at e;cases e;let⟨a,s,rfl,h,u,x,rfl,y,z,A,rfl,i,j,B,rfl,l,C,m,rfl,E,n⟩:=r;cases(show m=[] from n);let⟨c,G,rfl,o,q⟩:=i;cases(show j=.int b from l);exact⟨a,rfl,rfl,_,c,_,h,by rw[o,zfR q f]⟩
def zj6:∀{ds:List D}{xs:List V}{ks:List K3},RVs K ι H ds xs->ds.mapM zea=Φ ks->∃as:List Addr,xs=as.map V.ref/\as.length=ks.length/\ds.length=ks.length/\∀(j:Nat)(b:Addr),as[j]?=Φ b->∃k,ks[j]?=Φ k/\Let2 H b k
 | [],xs,ks,r,e=>by cases(show xs=[] from r);simp at e;subst e;exact⟨[],rfl,rfl,rfl,λj b h=>by simp at h⟩| d::ds,xs,ks,r,e=>by
  let⟨v,s,rfl,i,l⟩:=r;rw[Ϝ]at e;cases c:zea d with
  |none=>rw[c]at e;exact nS e
  |some k=>
   cases f:ds.mapM zea with
   |none=>rw[c,f]at e;exact nS e
   |some q=>rw[c,f]at e;cases e;let⟨as,rfl,m,n,o⟩:=zj6 l f;let⟨a,rfl,p⟩:=zrV i c;refine⟨a::as,rfl,by simp[m],by simp[n],λj b g=>?_⟩;cases j with|zero=>cases g;exact⟨k,rfl,p⟩|succ j=>exact o j b (by simpa using g)
end
def RH.add{K}(h:RH K ι H S)(x:Ext ι H (ι++[p]) H')(e:∀a∈ι,H' a=H a)(f:p∉ι)(g:RO K (ι++[p]) H' p o):RH K (ι++[p]) H' (S.push o):=by
 refine⟨by rw[length_append,h.len,zbV];rfl,?_,λl r q=>?_,x.kp.tab h.tab⟩;rw[nodup_append];refine⟨h.nd,by simp,λa i b d=>?_⟩;simp at d;subst d;exact λz=>f (z▸i);by_cases j:l<S.len;rw[zcg j]at q;let⟨a,k,m,n⟩:=h.mem q;exact⟨a,zbK (ύ _ _) k,m.stay x (e a n)⟩;have c:=zak q;rw[zbV]at c;have:l=S.len:=by lia
 subst this;rw[ze5]at q;cases q;exact⟨p,by rw[<-h.len];simp,g⟩
section
variable{T:Tab}{cf:CF}{k:Nat}{N:List Str}{sc:Scope}{X:Cx}{pos p kpos:Pos}
def znW(G:Gd T cf k N sc X)(hN:N=T.lam)(I:Gl X "sorted"/\X.mg "sorted"=Ψ)(he:PE X e (tE X.K cf ca))(s:zai e=Γ)(m:lamB le=Γ):
  PE X (.Call (.Name "sorted" p) [e] [⟨Φ "key",le,kpos⟩] pos) (tE X.K cf (.srtK ca)):=by
 let⟨r,J,t,M,rfl,L⟩:=zmb m;let⟨hk,c,mk⟩:=G.lam hN;have room:=((G.room'.mono (Nat.succ_le_succ hk)).in1).in1;refine PE.imp (zoC he s I.1 I.2 room mk (L.df _) (L.cl _) L.sc (L.bd _) L.kb) λσ H Qv y=>?_;let⟨δ,ι,S,Q,hs,hh,w,q⟩:=y;change W (Out.bind _ _) _ at w;simp![zab] at w;refine tE.run hs hh w λd v i H1 u x1 hs1 f r1 w1=>?_;let⟨⟨ds,ks⟩,g,j⟩:=zau w1;cases d with
 |ref l=>
  simp![zfK]at g;cases A:u.get l with
  |none=>rw[A]at g;exact nS g
  |some o=>
   rw[A]at g;cases o with
   |lst B=>
    dsimp only at g;cases em:B.mapM zea with
    |none=>rw[em]at g;exact nS g
    |some ks'=>rw[em]at g;cases g;let⟨b,i1,rfl⟩:=r1;let⟨b',O,xs,hx,U⟩:=f.obj l _ A;rw[i1]at O;cases O;let⟨as,rfl,l1,l2,la⟩:=zj6 U em;split at j;rename_i Y;unfold lay at j;split at j;refine⟨b,as,ks,rfl,SqL.of hx,l1,Y.1,Y.2,la,f.tab,λn H2 x hD h2=>?_⟩;have C:=f.fresh hD;have E:Ext i H1 (i++[n]) H2:=⟨ύ _ _,x.kp,λa o h e=>⟨(x.rest a o (by simp) e).1,λz=>by rcases mem_append.mp z with z|z;exact h z;simp at z;exact zam e hD z⟩⟩;refine q _ _ ⟨.ref u.len,i++[n],u.push (.lst ds),x1.trans E,⟨n,f.last n,rfl⟩,f.add E (λa hm=>?_) C ⟨_,h2,?_⟩,j⟩;let⟨o,e,_,_,nt⟩:=f.live hm;rw[e];exact x.keep (by simp) e nt;exact U.ext E;exact j.elim;exact j.elim
   |_=>exact nS g
 |_=>exact nS g
def zqE(C:PE X a (tE X.K cf E))(G:PE X b (tE X.K cf I)):PE X (.BinOp a .Mult b pos) (tE X.K cf (.rep E I)):=by
 refine PE.imp (zrl zrz C G) λσ H Qv z=>?_;let⟨δ,ι,S,Q,J,L,w,q⟩:=z;change W (Out.bind _ _) _ at w;simp![zab] at w;refine tE.run J L w λd v M H1 S1 O i j U Y=>tE.run i j Y λe u h H2 r s hs2 g r2 f=>?_;cases d with
 |ref l=>
  cases e with
  |int k=>
   obtain rfl:u=.int k:=r2;let⟨b,i1,rfl⟩:=U.ext s;dsimp only at f;split at f;rename_i c;cases n:r.get l with
   |none=>rw[n]at f;exact f.elim| some o=>
    rw[n]at f;cases o with
    |lst ds=>
     let⟨b',t,x,hx,y⟩:=g.obj l _ n;rw[i1]at t;cases t;dsimp only at f;unfold lay at f;split at f;rename_i A;refine⟨b,k,x,rfl,rfl,hx,c.1,c.2,?_,λp B=>?_⟩;rw[zj8]at A;rw[y.length,Nat.mul_comm];exact A;have rr:RVs X.K h H2 (List.replicate k.toNat ds).flatten (List.replicate k.toNat x).flatten:=by generalize k.toNat=m;induction m with|zero=>rfl|succ m ih=>exact RVs.append y ih
     exact q _ _ ⟨.ref r.len,h++[p],_,(O.trans s).trans (Ext.obj g B _),⟨p,g.last p,rfl⟩,g.lay B rr,f⟩;exact f.elim
    |_=>exact f.elim
   exact f.elim
  |_=>exact f.elim
 |_=>exact f.elim
end
end R
namespace R
open PySem PySem.Spec PyProof.Rows L2
section
variable{X:Cx}{o e f:Expr}{apos cpos:Pos}{td ty tv:TE}
abbrev zqn(td ty tv:TE):TE:=λc H Q=>td c H λx g=>∃a,x=.ref a/\IsD g a/\ty c g λy h=>tv c h λv d=>∃b k,d a=Φ (.dK b)/\y=.int k/\(∀u,valV b (.inl k)=Φ u->Q u d)/\(valV b (.inl k)=Ψ->b.length<sizeLine/\Q v (upd d a (.dK (putK b (.inl k) v))))
def zlV(N:PE X o td)(n:PE X e ty)(hf:PE X f tv)(m:M2 X o "setdefault" apos e f cpos):PE X (.Call (.Attribute o "setdefault" apos) [e,f] [] cpos) (zqn td ty tv):=by
 intro b s p H Q I h;refine wpAny_Call_method m.base m.few m.line PySem.F.plainAttrs_dict PySem.F.slot_dict_setdefault PySem.F.type_dict_setdefault (thn (N b s p H _ I h) λu O j=>?_);let⟨x,T,B,U,a,Y,d,q1⟩:=j;subst Y;obtain rfl:u=Ξ.ref a:=U;let⟨t1,t2,_⟩:=znb B d;refine⟨t1,t2,?_⟩;rw[m.trees];refine Calls.callWith_builtin rfl (Calls.evalArgs_plain (Calls.spliced_cons (thn (n b O p T _ B q1) λiv s2 z=>eY z λy H2 I2 ry q2=>Calls.spliced_cons (thn (hf b s2 p H2 _ I2 q2) λfv s3 z=>Calls.spliced_nil ?_))));let⟨v,C,t,E,g,k,G,ey,q3,q4⟩:=z;subst ey;let⟨z,J,L,c,M⟩:=zmw t.hok G;have hz:L.length<=sizeLine:=by rw[<-c.length];exact z
 refine PySem.call_meetsIn PySem.F.slot_dict_setdefault M.typeIs PySem.F.entry_dict_setdefault (PySem.F.args_dict_setdefault_3 _ _ _) (PySem.kt_meets_setdefault (zat X.prog X.w) a (zkf (k:=.inl k) ry) J fv) ⟨L,M,hz,λw hw=>?_,λhn h' i hs=>?_⟩;have r:=c.val (.inl k);rw[hw]at r;cases l:valV g (.inl k) with|none=>rw[l]at r;exact r.elim|some u=>rw[l]at r;exact⟨u,C,t.tok _,r,q3 u l⟩
 have r:=c.val (.inl k);rw[hn]at r;cases l:valV g (.inl k) with
 |some u=>rw[l]at r;exact r.elim| none=>
  let⟨hl,q5⟩:=q4 l;have A:(putK g (.inl k) v).length<=sizeLine:=by have:=zby g (.inl k) v;omega
  have n:∃q,h'.get? a=Φ q:=let ⟨q,_,_,hq,_⟩:=i;⟨q,hq⟩;exact⟨v,upd C a (.dK (putK g (.inl k) v)),ze7 t (by rw[G];exact True.intro) hs n (zkM A J (c.put (.inl k) E) i),E,q5⟩
end
variable[Mks]
def RIs.val{K}(k):∀{a:List (Int×D)}{ws:List (Key×V)},RIs K ι H a ws->(valI a k=Ψ/\valV ws (.inl k)=Ψ)\/∃d v,valI a k=Φ d/\valV ws (.inl k)=Φ v/\RV K ι H d v
 | [],ws,r=>by cases(show ws=[] from r);exact .inl ⟨rfl,rfl⟩| (j,d)::a,ws,r=>by
  let⟨v,w,rfl,b,c⟩:=r;by_cases e:j=k;subst e;exact .inr ⟨d,v,by simp[valI],by simp[valV],b⟩;have f:valI ((j,d)::a) k=valI a k:=by simp[valI,e]
  have g:valV (((Sum.inl j:Key),v)::w) (.inl k)=valV w (.inl k):=by simp[valV,e]
  rw[f,g];exact RIs.val k c
section
variable{T:Tab}{cf:CF}{k:Nat}{N:List Str}{sc:Scope}{X:Cx}{pos p p2 pos':Pos}
def zkm(f:RH X.K ι H S)(r:RV X.K ι H d v)(h:isDi S d=Γ):∃a,v=.ref a/\IsD H a:=by
 cases d with
 |ref l=>
  let⟨p,g,rfl⟩:=r;simp![isDi]at h;cases e:S.get l with
  |none=>rw[e]at h;exact nB h
  |some o=>rw[e]at h;let⟨b,c,i⟩:=f.obj _ _ e;rw[g]at c;cases c;cases o with|dic j=>let⟨_,m,n,_⟩:=i;exact⟨p,rfl,.inl ⟨m,.inl n⟩⟩|_=>exact nB h
 |_=>exact nB h
def zf3(j:RH X.K ι H S)(m:RV X.K ι H x n)(q:RV X.K ι H y f)(h:zf4 S x y=Φ o):
  ∃l a c ws d,x=.ref l/\ι[l]?=Φ a/\S.get l=Φ (.dic c)/\n=.ref a/\y=.int d/\(c.map (·.1)).Nodup/\H a=Φ (.dK ws)/\RIs X.K ι H c ws/\f=.int d/\o=valI c d:=by
 unfold zf4 at h;cases x with
 |ref l=>
  let⟨p,g,rfl⟩:=m;dsimp only at h;cases e:S.get l with
  |none=>rw[e]at h;exact nS h
  |some r=>
   rw[e]at h;let⟨b,i,s⟩:=j.obj _ _ e;rw[g]at i;cases i;cases r with
   |dic c=>let⟨t,ws,u,v⟩:=s;cases y with| int d=>cases h;obtain rfl:f=.int d:=q;exact⟨l,p,c,ws,d,rfl,g,e,rfl,rfl,t,u,v,rfl,rfl⟩|_=>exact nS h
   |_=>exact nS h
 |_=>exact nS h
def zlp(G:Gd T cf k N sc X)(Y:PE X o (tE X.K cf co))(he:PE X e (tE X.K cf ce))(hx:PE X x (tE X.K cf cx))(g:zai e=Γ)(b:zai x=Γ)(h:zaN o=Γ)(hl:(i.endLine==m.line)=Γ):
  PE X (.Call (.Attribute o "get" i) [e,x] [] m) (tE X.K cf (.dgetI co ce cx)):=by
 refine PE.imp (zlX (by have:=G.hu;lia) Y he hx ⟨zbE h "get" X.env _,by rw[zah g,zah b];rfl,hl,by rw[zah g,zah b];rfl⟩) λσ H Qv j=>?_;let⟨δ,ι,S,Q,hs,hh,w,q⟩:=j;change W (Out.bind _ _) _ at w;simp![zab] at w;refine tE.run hs hh w λd v ι1 H1 S1 x1 t n I r=>?_;split at r;rename_i c;let⟨a,rfl,hD⟩:=zkm n I c;refine⟨a,rfl,hD,?_⟩;rw[zab]at r;refine tE.run t n r λy vy ι2 H2 S2 J u A r2 L=>?_;rw[zab]at L;refine tE.run u A L λz vz ι3 H3 S3 B hs3 f r3 M=>?_;rw[zab]at M;let⟨o,eo,s⟩:=zau M;let⟨l,a',kvs,ws,O,_,_,_,ea,_,nd,ha,rk,rfl,rfl⟩:=zf3 f (I.ext (J.trans B)) (r2.ext B) eo;cases ea;refine⟨_,DGet.k (k:=.inl O) ha,?_⟩;have U:=(x1.trans J).trans B;rcases rk.val O with⟨C,E⟩|⟨d',v',C,E,rv⟩;rw[C]at s;rw[E];exact q _ _ (Lf.up U (Lf.of f r3 s));rw[C]at s;rw[E];exact q _ _ (Lf.up U (Lf.of f rv s));exact r.elim
def zlo(G:Gd T cf k N sc X)(ho:PE X o (tE X.K cf co))(he:PE X e (tE X.K cf ce))(hx:PE X x (tE X.K cf cx))(m:zai e=Γ)(g:zai x=Γ)(n:zaN o=Γ)(hl:(s.endLine==t.line)=Γ):
  PE X (.Call (.Attribute o "setdefault" s) [e,x] [] t) (tE X.K cf (.dsetI co ce cx)):=by
 refine PE.imp (zlV ho he hx ⟨zbE n "setdefault" X.env _,by rw[zah m,zah g];rfl,hl,by rw[zah m,zah g];rfl⟩) λσ H Qv j=>?_;let⟨δ,ι,S,Q,hs,hh,w,q⟩:=j;change W (Out.bind _ _) _ at w;simp![zab] at w;refine tE.run hs hh w λd v ι1 H1 S1 x1 U A r1 E=>?_;split at E;rename_i c;let⟨a,rfl,hD⟩:=zkm A r1 c;refine⟨a,rfl,hD,?_⟩;rw[zab]at E;refine tE.run U A E λy vy ι2 H2 S2 x2 Y hh2 r2 w2=>?_;rw[zab]at w2;refine tE.run Y hh2 w2 λz vz ι3 H3 I x3 hs3 f r3 w3=>?_;rw[zab]at w3;let⟨r,b,w4⟩:=zau w3;have up:=(x1.trans x2).trans x3;unfold ze8 at b;cases eg:zf4 I d y with
 |none=>rw[eg]at b;exact nS b
 |some og=>
  let⟨l,a',B,J,h,rfl,hi,hg,ea,rfl,nd,ha,rk,rfl,rfl⟩:=zf3 f (r1.ext (x2.trans x3)) (r2.ext x3) eg;cases ea;rw[eg]at b;have C:∀T,dPut I (.ref l) (.int h) z=Φ T->B.length<16777216/\I.put l (.dic (putI B h z))=Φ T:=λT i=>by unfold dPut at i;dsimp only at i;rw[hg]at i;dsimp only[Ϛ]at i;split at i;rename_i c;exact⟨c,i⟩;exact nS i
  rcases rk.val h with⟨e1,L⟩|⟨d',v',e1,L,rv⟩;rw[e1]at b;cases ep:dPut I (.ref l) (.int h) z with
  |none=>rw[ep]at b;exact nS b
  |some T'=>
   rw[ep]at b;cases b;let⟨c,es⟩:=C _ ep;have M:=Ext.wr f hg hi (.dK (putK J (.inl h) vz));have hz:J.length<sizeLine:=by rw[rk.length];exact c
   exact⟨J,h,ha,rfl,λu O=>absurd (L.symm.trans O) (λz=>by exact nS z),λ_=>⟨hz,(q _ _ ⟨z,ι3,T',up.trans M,r3.ext M,f.wr hg hi es ⟨zek nd,_,zag,(rk.put h r3 nd).up M.pre M.kp⟩,w4⟩)⟩⟩
  rw[e1]at b;cases b;refine⟨J,h,ha,rfl,λu O=>?_,λhn=>absurd (L.symm.trans hn) (λz=>by cases z)⟩;rw[L]at O;cases O;exact q _ _ (Lf.up up (Lf.of f rv w4))
 exact E.elim
end
section
variable{T:Tab}{cf:CF}{k:Nat}{N:List Str}{sc:Scope}{X:Cx}{pos p:Pos}
def zdL(h:zbo S d=Φ (c,a)):∃l,d=.ref l/\S.get l=Φ (.ins c a):=by
 cases d with
 |ref l=>
  refine⟨l,rfl,?_⟩;unfold zbo at h;dsimp only at h;cases e:S.get l with
  |none=>rw[e]at h;exact nS h
  |some o=>rw[e]at h;cases o with|ins f b=>cases h;rfl|_=>exact nS h
 |_=>exact nS h
def ne_of{b:Type}[BEq b]{xs:List b}{a:b}(h:xs.contains a=Γ):xs≠[]:=λe=>by rw[e]at h;simp at h
def Gd.clsAt(G:Gd T cf k N sc X)(d:T.flds≠[]\/T.inits≠[]\/T.isas≠[]){c:Nat}(h:Mks.cl[c]?=Φ C):∃x,T.cls[c]?=Φ x/\Cls X.K C/\X.mg x=Φ (.ref C)/\∀f,T.flds.contains f=Γ->NoAttr X.K C f:=by have a:=lt_of_lt_of_le (Α.mp h).1 (G.tab.cln d);let⟨j,b,e,g,i⟩:=G.tab.cls c T.cls[c] (Η a);rw[h]at b;cases b;exact⟨_,Η a,e,g,i⟩
def zqN(G:Gd T cf k N sc X)(n:PE X a (tE X.K cf o))(g:zaN a=Γ)(hf:T.flds.contains f=Γ):PE X (.Attribute a f pos) (tE X.K cf (.fld o f)):=by
 refine PE.imp (zrt n (zbE g f X.env _)) λσ H Qv z=>?_;let⟨δ,ι,S,Q,r,s,w,q⟩:=z;change W (Out.bind _ _) _ at w;simp![zab] at w;refine tE.run r s w λd v t H1 x y A h B E=>?_;let⟨u,e,I⟩:=zau E;cases j:zbo x d with
 |none=>rw[j]at e;exact nS e
 |some J=>let⟨c,L⟩:=J;rw[j]at e;have e:L.lookup f=Φ u:=e;let⟨l,rfl,M⟩:=zdL j;let⟨b,O,rfl⟩:=B;let⟨b',m,C,U,Y,hC,hb,rf⟩:=h.obj l _ M;rw[O]at m;cases m;let⟨_,_,cl,_,na⟩:=G.clsAt (.inl (ne_of hf)) hC;rcases rf.look f with⟨i,_⟩|⟨d',v',i,e2,rv⟩;rw[e]at i;cases i;rw[e]at i;cases i;exact⟨b,C,U,Y,v',rfl,hb,cl,na f hf,e2,q _ _ (Lf.up y (Lf.of h rv I))⟩
def zcv(d:attributeBase o name env (eval o env)=eval o env)(j:((backTo pos (starEach args env)).all (λx=>!x.1)&&(backToKw pos (keywordEach [] env)).all (λx=>x.1.isSome)
   && decide (args.length+([]:List Keyword).length+(if([]:List Keyword).isEmpty then 0 else 1)<30))=Γ)(g:(a.endLine==pos.line)=Γ)(h:wpAny (model prog w) A (eval o env) (λr b=>∀t,wpAny (model prog w) A (getMethod r name t) (λq c=>wpAny (model prog w) A (callWith pos q.1 q.2 (backTo pos (starEach args env)) (backToKw pos (keywordEach [] env))) Q E c) E b) E s):
  wpAny (model prog w) A (eval (.Call (.Attribute o name a) args [] pos) env) Q E s:=by
 rw[arm_eval_Call,d];refine Θ (Τ h (λr b l=>?_) λ_ _ e=>e);refine Θ (wpAny_standAt ?_);have i:methodCallForm (args.length+([]:List Keyword).length) (backTo pos (starEach args env)) (backToKw pos (keywordEach [] env))=Γ:=j;have m:methodCallPos Γ o env a pos=pure pos:=by unfold methodCallPos;simp[g]
 unfold methodCall;rw[i];refine Θ (ϓ (Τ (l _) (λq c n=>?_) λ_ _ e=>e));exact Θ (wpAny_of_eq m n)
abbrev zi6(X:Cx)(k:Nat)(m:Str)(i:TE)(t:TA):TE:=λb H Q=>i b H λx c=>∃(a C j:Addr) (d:List (Str×V)) (e:Addr) (f:FuncData) (g:List Str) (h:Sp),x=.ref a/\c a=Φ (.ins C j d)/\Cls X.K C/\Meth X.K C m e/\
 FnOk X.prog X.w X.K X.mg X.base CX0 k e f g h/\Binds X.K f g []/\d.lookup m=Ψ/\t b c λl n=>h (x::l) n Q E0
def zlR(B:PE X o E)(G:Room k X.A)(J:PA X (e::es) t)(d:attributeBase o m X.env (eval o X.env)=eval o X.env)(g:((backTo pos (starEach (e::es) X.env)).all (λx=>!x.1)&&(backToKw pos (keywordEach [] X.env)).all (λx=>x.1.isSome)
   && decide ((e::es).length+([]:List Keyword).length+(if([]:List Keyword).isEmpty then 0 else 1)<30))=Γ)(f:(i.endLine==pos.line)=Γ)(j:starEach (e::es) X.env=(Δ,eval e X.env)::starEach es X.env)(n:(backTo pos (starEach es X.env)).any (·.1)=Δ):
  PE X (.Call (.Attribute o m i) (e::es) [] pos) (zi6 X k m E t):=by
 intro b s v H Q I h;refine zcv d g f (thn (B b s v H _ I h) λu L z pl=>?_);let⟨x,M,w,O,a,C,dx,fs,fa,fd,ps,sp,U,Y,c,y,F,hb,l,q⟩:=z;subst U;obtain rfl:u=Ξ.ref a:=O;refine zcN w Y c y l ?_;refine callWith_K I.ok.mod.kin y.kp (thn (J pos b L v M _ w q) λus s2 z=>eY z λvs H2 A r q2=>⟨A.kIn,?_⟩) j n;exact zfs (vs:=.ref a::vs) F G hb .nil zgE A (.cons rfl r) (by rw[Ϟ];exact q2)
def zfE(j:PE X o n)(r:Room k X.A)(b:attributeBase o m X.env (eval o X.env)=eval o X.env)(d:(e.endLine==pos.line)=Γ):
  PE X (.Call (.Attribute o m e) [] [] pos) (zi6 X k m n tNil):=by
 intro f s t H Q I h;refine zcv b rfl d (thn (j f s t H _ I h) λu B z E=>?_);let⟨x,G,g,v,a,C,J,L,M,O,U,Y,w,y,c,i,F,A,l,q⟩:=z;subst w;obtain rfl:u=Ξ.ref a:=v;refine zcN g y c i l ?_;exact callWith_K0 g.kIn i.kp (zfs (vs:=[.ref a]) F r A .nil zgE g (.cons rfl .nil) (by exact q))
abbrev mtB(T:Tab)(m:Str)(a:List (Nat×Nat)):Bool:=a.all λp=>T.mts.contains (p.1,m,p.2)
def zcK{a:List (Nat×Nat)}(h:a.lookup c=Φ f):(c,f)∈a:=by
 induction a with
 |nil=>exact nS h
 |cons p r b=>simp![List.lookup]at h;split at h;rename_i e;cases h;have:=eq_of_beq e;subst this;simp;exact Μ _ (b h)
def zhu(G:Gd T cf k N sc X)(Y:mtB T m tb=Γ)(ht:∀{i:L2.St}{H:Hp}{I:List V->Hp->Prop},tAs X.K cf n i H I->t i H I)(h:tE X.K cf (.meth m tb co n) i H Qv):zi6 X k m (tE X.K cf co) t i H Qv:=by
 let⟨δ,ι,S,Q,hs,hh,w,q⟩:=h;change W (Out.bind _ _) _ at w;simp![zab] at w;refine tE.run hs hh w λd v ι1 H1 S1 x1 o a J w1=>?_;let⟨pr,ei,w2⟩:=zau w1;let⟨c,fs⟩:=pr;let⟨f,ef,j⟩:=zau w2;split at j;rename_i s;rw[zab]at j;let⟨l,rfl,hl⟩:=zdL ei;have u:=J;let⟨b,i1,rfl⟩:=J;let⟨b',L,C,dx,M,hC,hb,rf⟩:=a.obj l _ hl;rw[i1]at L;cases L;have y:=all_eq_true.mp Y (c,f) (zcK ef);let⟨C',fa,fd,ps,g,cl,me,F,bi⟩:=(G.tab.mth c m f y).ex;rw[hC]at g;cases g;have z:M.lookup m=Ψ:=by rcases rf.look m with⟨_,e2⟩|⟨d',v',e1,_,_⟩;exact e2;rw[e1]at s;exact nB s
 refine⟨b,C,dx,M,fa,fd,ps,_,rfl,hb,cl,me,F,bi,z,ht ?_⟩;refine tAs.run o a j λds vs A H2 S2 O hs2 B r2 U=>?_;unfold appW at U;refine⟨A,S2,.ref l::ds,⟨.ref b,vs,rfl,u.ext O,r2⟩,B,?_⟩;let⟨d,T',e,w5⟩:=zfj U;rw[e];exact λv H' E x r hT=>q v H' (Lf.up (x1.trans O) ⟨d,E,T',x,r,hT,w5⟩);exact j.elim
def znZ(G:Gd T cf k N sc X)(f:mtB T m g=Γ)(i:PE X o (tE X.K cf j))(l:PA X (e::es) (tAs X.K cf d))(a:(e::es).all zai=Γ)(b:zaN o=Γ)(n:(c.endLine==pos.line)=Γ)(u:(e::es).length<29):
  PE X (.Call (.Attribute o m c) (e::es) [] pos) (tE X.K cf (.meth m g j d)):=by
 have q:=a;rw[Ϥ,Ε]at a;refine PE.imp (zlR i G.room l (zbE b m X.env _) ?_ n (zah a.1 es X.env) (zaA a.2)) λv H w h=>zhu G f (λz=>z) h;have h0:=zaA (pos:=pos) (env:=X.env) q;have r:(backTo pos (starEach (e::es) X.env)).all (λx=>!x.1)=Γ:=by rw[all_eq_true];intro x s;have:=List.any_eq_false.mp h0 x s;simpa using this
 have t:decide ((e::es).length+([]:List Keyword).length+(if([]:List Keyword).isEmpty then 0 else 1)<30)=Γ:=by rw[decide_eq_true_eq];show(e::es).length+0+0<30;lia
 rw[r,t];rfl
def zhs(b:a=.nil)(h:tAs X.K cf a c H d):tNil c H d:=by subst b;let⟨g,e,S,Q,i,f,w,q⟩:=h;exact q [] H ⟨[],e,S,Ext.refl _ _,rfl,f,by simpa[evEs]using w⟩
def zln(G:Gd T cf k N sc X)(c:mtB T m d=Γ)(e:PE X o (tE X.K cf f))(a:zaN o=Γ)(g:(b.endLine==pos.line)=Γ):
  PE X (.Call (.Attribute o m b) [] [] pos) (tE X.K cf (.meth m d f .nil)):=
 PE.imp (zfE e G.room (zbE a m X.env _) g) λi H j h=>zhu G c (λz=>zhs rfl z) h
def Vals.nons:∀j:Nat,Vals (List.replicate j .non) (List.replicate j Ξ.none)
 |0=>.nil|j+1=>.cons rfl (Vals.nons j)
def zhA(G:Gd T cf k N sc X)(U:Mks.cl[c]?=Φ C)(Y:∀{n:L2.St}{H:Hp}{I:List V->Hp->Prop},tAs X.K cf o n H I->t n H I)(h:tE X.K cf (.mk c f x j o) n H Qv):znE C (spF X.K cf f) (List.replicate j V.non) E0 t n H Qv:=by
 let⟨δ,ι,S,Q,hs,hh,w,q⟩:=h;change W (Out.bind _ _) _ at w;simp![zab] at w;refine Y (tAs.run hs hh w λds vs a i s x1 hs1 u r1 J=>?_);intro y g hy l z;have b:=u.new l (.own y);have L:Ext a i a (upd i g (.own y)):=Ext.new l _;have m:(upd i g (.own y)) y=Ψ:=by rw[zaf (Ne.symm z)];exact hy
 have A:=b.obj' m (.ins C g []) (.ins c []) ⟨C,g,[],U,zag,rfl⟩;have M:Ext a (upd i g (.own y)) (a++[y]) (upd (upd i g (.own y)) y (.ins C g [])):=Ext.obj b m _;unfold appW at J;let⟨d,T',e,B⟩:=zfj J;refine⟨a++[y],s.push (.ins c []),.ref s.len::(ds++List.replicate j .non),⟨.ref y,_,rfl,⟨y,b.last y,rfl⟩,RVs.append ((r1.ext L).ext M) (RVs.nons j)⟩,A,?_⟩;rw[e];intro v H' E O r hT;split at B;rename_i hn;cases d with| non=>refine⟨r,q _ _ ⟨.ref s.len,E,T',((x1.trans L).trans M).trans O,⟨y,zbK O.pre (b.last y),rfl⟩,hT,B⟩⟩|_=>exact nB hn
 exact B.elim
def ztk(G:Gd T cf k N sc X)(d:T.inits.contains (c,f,j)=Γ)(l:T.cls[c]?=Φ x)(m:isGl sc x=Γ)(hd:(x==("__debug__":Str))=Δ)(n:PA X (e::es) (tAs X.K cf b))(a:(e::es).all zai=Γ):
  PE X (.Call (.Name x p) (e::es) [] pos) (tE X.K cf (.mk c f x j b)):=by
 let⟨C,r,s,t,g,M,F,o⟩:=(G.tab.ini c f j d).ex;let⟨u,i,_,q,_⟩:=G.clsAt (.inr (.inl (ne_of d))) g;rw[l]at i;cases i;rw[Ϥ,Ε]at a;exact PE.imp (zoD M F G.room' (G.gl m) q o (Vals.nons j) zgE n hd (zah a.1 es X.env) (zaA a.2)) λv H w h=>zhA G g (λz=>z) h
def zqJ(G:Gd T cf k N sc X)(a:T.inits.contains (c,f,j)=Γ)(e:T.cls[c]?=Φ x)(g:isGl sc x=Γ)(hd:(x==("__debug__":Str))=Δ):
  PE X (.Call (.Name x p) [] [] pos) (tE X.K cf (.mk c f x j .nil)):=by
 let⟨C,m,n,o,b,M,F,i⟩:=(G.tab.ini c f j a).ex;let⟨q,d,_,l,_⟩:=G.clsAt (.inr (.inl (ne_of a))) b;rw[e]at d;cases d;exact PE.imp (zlT M F G.room' (G.gl g) l i (Vals.nons j) zgE hd) λr H s h=>zhA G b (λz=>zhs rfl z) h
def zkF(hs:(e::es).all zai=Γ)(d:(e::es).length<29):((backTo pos (starEach (e::es) env)).all (λx=>!x.1)&&(backToKw pos (keywordEach [] env)).all (λx=>x.1.isSome)
  && decide ((e::es).length+([]:List Keyword).length+(if([]:List Keyword).isEmpty then 0 else 1)<30))=Γ:=by
 have h0:=zaA (pos:=pos) (env:=env) hs;have a:(backTo pos (starEach (e::es) env)).all (λx=>!x.1)=Γ:=by rw[all_eq_true];intro x b;have:=List.any_eq_false.mp h0 x b;simpa using this
 have c:decide ((e::es).length+([]:List Keyword).length+(if([]:List Keyword).isEmpty then 0 else 1)<30)=Γ:=by rw[decide_eq_true_eq];show(e::es).length+0+0<30;lia
 rw[a,c];rfl
def zl0(w:HasC X.prog X.w X.K X.mg X.base k x m sp)(y:Room k X.A)(A:PA X (e::es) t)(B:Gl X x)(i:(x==("__debug__":Str))=Δ)(c:attributeBase (.Name x p) m X.env (eval (.Name x p) X.env)=eval (.Name x p) X.env)(f:(e::es).all zai=Γ)(E:(e::es).length<29)(d:(g.endLine==pos.line)=Γ):
  PE X (.Call (.Attribute (.Name x p) m g) (e::es) [] pos) (zeH sp [] E0 t):=by
 let⟨C,fa,fd,ps,mc,G,J,L,M,O,F,U⟩:=w.ex;have a:=f;rw[Ϥ,Ε]at a;intro b s j H Q I h;refine zcv c (zkF f E) d (thn (zeU (v:=.ref C) B G rfl i b s j H (λv l=>v=.ref C/\zeH sp [] E0 t j l Q) I ⟨rfl,h⟩) λu s1 z pl=>?_);let⟨xv,l,n,Y,ex,q⟩:=z;subst ex;obtain rfl:u=Ξ.ref C:=Y;refine PySem.W.method_cls n.kIn J (PySem.W.cls_value n.kIn L M rfl ?_);exact callWith_K (first:=[]) (h₀:=X.base) I.ok.mod.kin O (thn (A pos b _ j l _ (n.tok _) q) λus s2 z=>eY z λvs H2 o r q2=>⟨o.kIn,(zfs (us:=us) (vs:=vs) F y U .nil zgE o r q2)⟩) (zah a.1 es X.env) (zaA a.2)
def ziH(h:tE X.K cf (.callC f x m a) j H l):zeH (spF X.K cf f) [] E0 (tAs X.K cf a) j H l:=by let⟨G,I,S,Q,n,o,w,q⟩:=h;change W (Out.bind _ _) _ at w;simp![zab] at w;refine tAs.run n o w λs J b L t u y c z i=>?_;unfold appW at i;rw[Ϟ];refine⟨b,t,s,z,c,?_⟩;let⟨d,A,e,B⟩:=zfj i;rw[e];exact λv C g x r E=>q v C (Lf.up u ⟨d,g,A,x,r,E,B⟩)
def zlr(G:Gd T cf k N sc X)(g:T.cms.contains (x,m,f)=Γ)(i:isGl sc x=Γ)(hd:(x==("__debug__":Str))=Δ)(a:zaN (.Name x p)=Γ)(j:PA X (e::es) (tAs X.K cf c))(d:(e::es).all zai=Γ)(l:(e::es).length<29)(n:(b.endLine==pos.line)=Γ):
  PE X (.Call (.Attribute (.Name x p) m b) (e::es) [] pos) (tE X.K cf (.callC f x m c)):=
 PE.imp (zl0 (G.tab.cmd x m f g) G.room j (G.gl i) hd (zbE a m X.env _) d l n) λo H q h=>ziH h
end
abbrev LfS(X:Cx)(ι:List Addr)(H:Hp)(Q:Fl->R.St->Prop)(E:Ends):Prop:=∀f b c j,Ext ι H b c->RH X.K b c j->Q f j->(match f with|.nx h=>∀e,RS X.K b c h e->E.nx e c|.rt d=>∀v,RV X.K b c d v->E.rt v c|.ex d=>∀a e g i,RV X.K b c d (.ref a)->Inv X g e c i->Fly X.s₀.heap.objs.size c i.heap a->X.xe (.ref a) i)
abbrev tS(X:Cx)(cf:CF)(c:CS):TS:=λE d H=>∃b a S Q,RS X.K a H b d/\RH X.K a H S/\W (exS cf c b S) Q/\LfS X a H Q E
def LfS.up(h:LfS X ι H Q E)(x:Ext ι H a c):LfS X a c Q E:=λf b d e g i q=>h f b d e (x.trans g) i q
def PS.imp{st}(h:PS X st t)(i:∀E a H,t' E a H->t E a H):PS X st t':=λb s a H E I q=>h b s a H E I (i E a H q)
def PSs.imp{st}(h:PSs X st t)(i:∀E a H,t' E a H->t E a H):PSs X st t':=λb s a H E I q=>h b s a H E I (i E a H q)
section
variable{T:Tab}{cf:CF}{k:Nat}{N:List Str}{sc:Scope}{X:Cx}{pos p:Pos}{rest:List Stmt}
def zqv:PSs X [] (tS X cf .nil):=PSs.imp zeS λE a H z=>by let⟨e,b,S,Q,c,d,w,l⟩:=z;exact l _ b H S (Ext.refl _ _) d w a c
def zqy(G:Gd T cf k N sc X)(g:N[i]?=Φ x)(f:zb5 sc x=Γ)(h:PE X e (tE X.K cf j))(m:za8 e=Γ)(n:PSs X rest (tS X cf r)):
  PSs X (.Assign [.Name x p] e pos::rest) (tS X cf (.asg i j r)):=by
 refine PSs.imp (zaC (zel (by rw[G.nm];exact G.nd) (by rw[G.nm];exact g) (G.lc f).1 h (zbH m _ _ _) (G.lc f).2) n) λE B H z=>?_;let⟨o,C,S,Q,q,s,w,l⟩:=z;change W (Out.bind _ _) _ at w;simp![zab] at w;exact tE.run q s w λd v a I t u b c y A=>⟨o.set i (Φ d),a,t,Q,b.set y i,c,A,l.up u⟩
def znL(G:Gd T cf k N sc X)(I:N[i]?=Φ x)(a:∃t,PS X (.Assign [.Name x p] e pos) (tAsg t (zfV i))/\∀b H h,tE X.K cf j b H h->t b H h)(m:PSs X rest (tS X cf r)):
  PSs X (.Assign [.Name x p] e pos::rest) (tS X cf (.asg i j r)):=by
 let⟨t,n,o⟩:=a;refine PSs.imp (zaC n m) λE b H z=>?_;let⟨q,J,S,Q,s,u,w,l⟩:=z;change W (Out.bind _ _) _ at w;simp![zab] at w;exact o _ _ _ (tE.run s u w λd v c L y A f g B C=>⟨q.set i (Φ d),c,y,Q,f.set B i,g,C,l.up A⟩)
def znI(f:PE X e (tE X.K cf g))(h:za8 e=Γ)(i:PSs X rest (tS X cf r)):PSs X (.Expr e pos::rest) (tS X cf (.expr g r)):=by refine PSs.imp (zaC (zeT f (zbH h _ _ _)) i) λE t H z=>?_;let⟨j,u,S,Q,m,n,w,l⟩:=z;change W (Out.bind _ _) _ at w;simp![zab] at w;exact tE.run m n w λd v a x o q b c y s=>⟨j,a,o,Q,b,c,s,l.up q⟩
def zqu(b:PE X e (tE X.K cf c))(f:PSs X rest (tS X cf r)):PSs X (.Return (Φ e) pos::rest) (tS X cf (.ret c r)):=by refine PSs.imp (zaC (zm0 b) f) λE q H z=>?_;let⟨s,t,S,Q,g,h,w,l⟩:=z;change W (Out.bind _ _) _ at w;simp![zab] at w;exact tE.run g h w λd v i u x j m a n o=>(l _ _ _ _ j a o v n)
def zth(A:PT X c (tT X.K cf B))(C:PSs X a (tS X cf G))(I:PSs X b (tS X cf J))(L:PSs X rest (tS X cf r)):PSs X (.If c a b pos::rest) (tS X cf (.ifS B G J r)):=by
 refine PSs.imp (zaC (zrc A C I) L) λE σ H k=>?_;let⟨u,ι,S,Q,M,O,w,l⟩:=k;change W (Out.bind _ _) _ at w;simp![zab] at w;refine tT.run M O w λz e U x n i j y=>?_;have fin:LfS X e U (λf m=>W (match f with|.nx g=>exS cf r g m|.rt d=>.ok (.rt d) m|.ex d=>.ok (.ex d) m) Q) {E with nx:=tS X cf r E}:=by intro f o H2 m s h q;cases f with|nx g=>exact λY t=>⟨g,o,m,Q,t,h,q,(l.up n).up s⟩|rt d=>exact λv rv=>(l.up n) _ _ _ _ s h q v rv|ex d=>exact(l.up n) _ _ _ _ s h q
 cases z with|true=>exact⟨u,e,x,_,i,j,y,fin⟩|false=>exact⟨u,e,x,_,i,j,y,fin⟩
abbrev FInv(K:PySem.W.Frag)(cf:CF)(g:List Nat)(b:CS)(l:Fl->R.St->Prop)(ds:List D)(a:List Nat)(h:List Addr)(m:Hp)(S1:R.St)(i:Nat)(j:L2.St)(H':Hp):Prop:=i<=ds.length/\∃c d e,RS K d H' c j/\Ltr K h m S1 a d H' e/\e.lk=a++S1.lk/\S1.len<=e.len/\W (zaM g (exS cf b) (ds.drop i) c e) λf n=>l f {n with lk:=S1.lk}
def zqw(G:Gd T cf k N sc X)(hi:PI X tg g (tI X.K cf it))(hg:PG X tg (tG X.K is))(hb:PSs X A (tS X cf Y))(B:zaU g=Γ)(hr:PSs X rest (tS X cf r)):
  PSs X (.For tg g A [] pos::rest) (tS X cf (.forS is it Y r)):=by
 have hp:=G.xe;refine PSs.imp (zaC (zrd hp G.calm hi hg hb (ze6 B X.env)) hr) λE σ H y=>?_;let⟨δ,ι,S,Q,hs,hh,w,l⟩:=y;change W (Out.bind _ _) _ at w;simp![zab] at w;refine⟨δ,ι,S,_,hs,hh,w,λJ H1 y=>?_⟩;let⟨ds,b,j,n,x1,hh1,C,wk⟩:=y;unfold za4 at C;rw[zab]at C;refine⟨λi m I L=>m=ds.length-i/\FInv X.K cf is Y (λf S2=>W (match f with|.nx c=>exS cf r c S2|.rt d=>.ok (.rt d) S2|.ex d=>.ok (.ex d) S2) Q) ds b j H1 n i I L,⟨_,rfl,zero_le _,δ,j,{n with lk:=b++n.lk},hs.ext x1,⟨Ext.refl _ _,hh1.lk _,λl _=>rfl⟩,rfl,le_refl _,C⟩,?_⟩;rintro i m I L ⟨rfl,hle,c,a,u,M,o,O,U,e⟩;have l1:=l.up (x1.trans o.ext);rcases Nat.lt_or_eq_of_le hle with q|rfl;refine .inr ⟨wk.go i a L u o q,FInv X.K cf is Y _ ds b j H1 n (i+1),λσ2 H2 h=>⟨_,by omega,rfl,h⟩,λx H2 hy=>?_⟩;let⟨x2,hh2,d,hd,rd⟩:=wk.yld i a L u x H2 o q hy;rw[zdP hd]at e;simp![zaM]at e;cases ea:asgG is d c with|none=>rw[ea]at e;exact e.elim| some s=>rw[ea]at e;rw[zab]at e;refine⟨c,a,d,s,M.ext x2,rd,ea,λσ2 hs3=>⟨s,a,u,_,hs3,hh2,(frS G.tab.frm Y s u).w e,?_⟩⟩;rintro f ι3 H3 S3 x3 t ⟨w3,f3⟩;have k1:=f3.lk.trans O;have k3:∀l∈b,S3.get l=n.get l:=λl hl=>(f3.same l (by rw[O];exact mem_append_left _ hl) (lt_of_lt_of_le (wk.lks l hl) U)).trans (o.lck l hl);cases f with|nx δ3=>exact λσ3 hs4=>⟨q,δ3,ι3,S3,hs4,⟨(o.ext.trans x2).trans x3,t,k3⟩,k1,le_trans U f3.lens,w3⟩|rt z=>exact λv rv=>l1 _ _ _ _ (x2.trans x3) (t.lk _) w3 v rv|ex z=>exact l1 _ _ _ _ (x2.trans x3) (t.lk _) w3
 refine .inl ⟨wk.stop _ a L u o (le_refl _),?_⟩;rw[List.drop_length]at e;exact⟨c,a,{u with lk:=n.lk},Q,M,o.rh.lk _,e,l1⟩
abbrev zuk(H:Hp)(a:Addr)(y v:V)(H':Hp):Prop:=DPut H a y v H'\/∃b k j,H a=Φ (.lst b)/\y=.int k/\L2.ixN b.length k=Φ j/\H'=upd H a (.lst (b.set j v))
abbrev zq0(d e f:TE):TS:=λD b H=>f b H λv g=>d b g λx h=>e b h λy i=>∃a c,x=.ref a/\zuk i a y v c/\D.nx b c
def zlJ(hu:X.A.units+5<cLine)(A:PE X o B)(C:PE X i E)(G:PE X c J)(hs:swapsWith c (Φ (.Subscript o i pos')) pos.line X.env=pure Δ):
  PS X (.Assign [.Subscript o i pos'] c pos) (zq0 B E J):=by
 intro b s d H D I h;refine wpAny_Assign_Subscript (thn (G b s d H _ I h) λr L z=>eY z λv M O m Q=>thn (A b L d M _ O Q) λu U z=>eY z λx Y I2 rx q2=>thn (C b U d Y _ I2 q2) λiv s3 q'=>?_) hs;let⟨y,H3,n,t,a,H4,ex,g,w⟩:=q';subst ex;obtain rfl:u=Ξ.ref a:=rx;rcases g with g|⟨xs,k,j,e,ey,ej,rfl⟩;exact zkS (by lia) n g t m λs4 f=>⟨d,H4,f,w⟩;exact Τ (zlj b s3 d H3 (.ref a) y v (.ref a) iv r (λl=>D.nx d l) n rfl t m ⟨a,xs,k,j,rfl,ey,e,ej,w⟩) (λ_ s4 p=>(by let⟨l,f,q⟩:=p;exact ⟨d,l,f,q⟩)) λ_ _ z=>z
def zlf(G:Gd T cf k N sc X)(m:PE X a (tE X.K cf ca))(hb:PE X b (tE X.K cf cb))(he:PE X e (tE X.K cf ce))(hc:za8 e=Γ)(hr:PSs X rest (tS X cf r)):
  PSs X (.Assign [.Subscript a b p] e pos::rest) (tS X cf (.setIx ca cb ce r)):=by
 refine PSs.imp (zaC (zlJ (by have:=G.hu;lia) m hb he (zbH hc _ _ _)) hr) λE σ H z=>?_;let⟨M,ι,S,Q,hs,hh,w,l⟩:=z;change W (Out.bind _ _) _ at w;simp![zab] at w;refine tE.run hs hh w λd v ι1 H1 S1 O A B U w1=>?_;refine tE.run A B w1 λx vx ι2 H2 S2 u C I r2 w2=>?_;refine tE.run C I w2 λy Y n H3 S3 o q g r3 s=>?_;cases f:dPut S3 x y d with
 |none=>rw[f]at s;exact s.elim| some S4=>
  rw[f]at s;unfold dPut at f;cases x with
  |ref i=>
   let⟨p,t,rfl⟩:=r2.ext o;dsimp only at f;cases e:S3.get i with
   |none=>rw[e]at f;exact nS f
   |some ob=>
    rw[e]at f;let⟨b,h2,h3⟩:=g.obj _ _ e;rw[t]at h2;cases h2;cases ob with
    |dic kvs=>
     let⟨nd,ws,m,rk⟩:=h3;dsimp only at f;cases y with
     |int k=>obtain rfl:Y=.int k:=r3;split at f;rename_i c;have J:=U.ext (u.trans o);have h:=Ext.wr g e t (.dK (putK ws (.inl k) v));refine⟨p,_,rfl,.inl <| DPut.k (k:=.inl k) m (by rw[rk.length,Χ];exact c),M,n,S4,Q,q.ext h,g.wr e t f ⟨zek nd,_,zag,?_⟩,s,l.up (((O.trans u).trans o).trans h)⟩;exact(rk.put k J nd).up h.pre h.kp;exact nS f
     |_=>exact nS f
    |lst ds=>
     let⟨xs,m,rx⟩:=h3;dsimp only at f;cases y with
     |int k=>
      obtain rfl:Y=.int k:=r3;dsimp only[zbz,Ϛ]at f;cases L:R.ixN ds.length k with
      |none=>rw[L]at f;exact nS f
      |some j=>rw[L,Ϛ]at f;have J:=U.ext (u.trans o);have h:=Ext.wr g e t (.lst (xs.set j v));refine⟨p,_,rfl,.inr ⟨xs,k,j,m,rfl,by rw[rx.length];exact L,rfl⟩,M,n,S4,Q,q.ext h,g.wr e t f ⟨_,zag,?_⟩,s,l.up (((O.trans u).trans o).trans h)⟩;exact(RVs.set J j rx).up h.pre h.kp
     |_=>exact nS f
    |_=>exact nS f
  |_=>exact nS f
def znG(G:Gd T cf k N sc X)(hf:T.flds.contains f=Γ)(O:PE X a (tE X.K cf U))(Y:PE X e (tE X.K cf ce))(hc:za8 e=Γ)(hr:PSs X rest (tS X cf r)):
  PSs X (.Assign [.Attribute a f p] e pos::rest) (tS X cf (.setF U f ce r)):=by
 refine PSs.imp (zaC (zre O Y (zbH hc _ _ _)) hr) λE σ H z=>?_;let⟨δ,ι,S,Q,hs,hh,w,l⟩:=z;change W (Out.bind _ _) _ at w;simp![zab] at w;refine tE.run hs hh w λd v ι1 H1 S1 x1 o q r1 w1=>?_;refine tE.run o q w1 λx vx s H2 A B t h r2 m=>?_;cases g:zb6 A x f d with
 |none=>rw[g]at m;exact m.elim| some S3=>
  rw[g]at m;unfold zb6 at g;cases x with
  |ref i=>
   let⟨b,u,rfl⟩:=r2;dsimp only at g;cases j:A.get i with
   |none=>rw[j]at g;exact nS g
   |some ob=>
    rw[j]at g;cases ob with
    |ins c fs=>let⟨b',I,C,y,J,L,hb,M⟩:=h.obj _ _ j;rw[u]at I;cases I;dsimp only at g;split at g;rename_i c2;let⟨_,_,cl,_,na⟩:=G.clsAt (.inl (ne_of hf)) L;have rv:=r1.ext B;have n:=Ext.wr h j u (.ins C y (putF f v J));refine⟨b,C,y,J,rfl,hb,cl,na f hf,by rw[M.length];exact c2,δ,s,S3,Q,t.ext n,h.wr j u g ⟨C,y,_,L,zag,(M.put f rv).up n.pre n.kp⟩,m,l.up ((x1.trans B).trans n)⟩;exact nS g
    |_=>exact nS g
  |_=>exact nS g
def znK(G:Gd T cf k N sc X)(n:zb8 sc N is es=Γ)(o:2<=is.length)(s:PE X e (tE X.K cf t))(m:(∃x q,e=.Name x q)\/∃f as ks q,e=.Call f as ks q)(u:PSs X rest (tS X cf r)):
  PSs X (.Assign [.Tuple es j p] e pos::rest) (tS X cf (.asgT is t r)):=by
 have c:swapsWithSole [.Tuple es j p] e pos.line X.env=pure Δ:=by rcases m with⟨x,q,rfl⟩|⟨f,as,ks,q,rfl⟩<;>rfl
 have y:swappedStores [.Tuple es j p] e X.env=pure Ψ:=by rcases m with⟨x,q,rfl⟩|⟨f,as,ks,q,rfl⟩<;>rfl
 refine PSs.imp (zaC (zrf s (zmS G n o) c y) u) λE Y H z=>?_;let⟨A,ι,S,Q,c,B,w,l⟩:=z;change W (Out.bind _ _) _ at w;simp![zab] at w;refine tE.run c B w λd v a H1 C I g h J L=>?_;let⟨b,M,O⟩:=zau L;exact⟨A,a,d,b,g,J,M,λU i=>⟨b,a,C,Q,i,h,O,l.up I⟩⟩
end
def zgV{K:PySem.W.Frag}{id}(h:wpAny M A (spliced (backTo pos (starEach (e::rest) env))) (λvs a=>K.In a.heap/\wpAny M A (call (.builtin id) ([]++vs)) Q E a) E s)(b:starEach (e::rest) env=(Δ,eval e env)::starEach rest env)(c:(backTo pos (starEach rest env)).any (·.1)=Δ):
  wpAny M A (callWith pos (.builtin id) [] (backTo pos (starEach (e::rest) env)) []) Q E s:=by
 rw[b]at h⊢;refine PySem.W.callWith_of (by show((Δ||(backTo pos (starEach rest env)).any (·.1))||false)=Δ;rw[c];rfl) (λ_ _=>⟨.machine,.inr (.inl rfl),.now⟩) (Calls.evalArgs_plain h)
section
variable{X:Cx}{xR y f:Str}{fI:Addr}
def zoE(u:XUp X.K X.mg xR)(p:Gl X xR)(g:(xR==("__debug__":Str))=Δ)(h0:X.N[0]?=Φ ("self":Str))(t:Vis X.env.scope "self")(w:(x.endLine==m.line)=Γ):
  PE X (.Call (.Attribute (.Name xR p1) "__init__" x) [.Name "self" A,.Constant (.str b) j B] [] m) (λc H Q=>∃e C,c[0]?=Φ (Φ (.ref e))/\H e=Φ (XN e C)/\excJ X.K C fI=Γ/\Q .non H):=by
 let⟨CR,E,G,J,L⟩:=u.ex;intro a s c H Q I z;let⟨e,C,M,N,O,q⟩:=z;refine zcv (zbE rfl _ _ _) (zkF rfl (by show 2<29;decide)) w (thn (zeU (v:=.ref CR) p E rfl g a s c H (λv d=>v=.ref CR/\d=H) I ⟨rfl,rfl⟩) λu s1 k pl=>?_);let⟨xv,d,h,T,U,i⟩:=k;subst U i;obtain rfl:u=Ξ.ref CR:=T;refine PySem.W.method_cls h.kIn G (PySem.W.cls_value h.kIn J L rfl ?_);refine zgV (thn ((show PA X [.Name "self" A,.Constant (.str b) j B] _ from zaT (zem h0 t) (zaT zm1 zcs)) m a _ c d (λn l=>n=[V.ref e,V.str b]/\l=d) (h.tok _) ⟨_,M,rfl,rfl⟩) λus s2 ⟨n,l,o,r,Y,i⟩=>⟨o.kIn,?_⟩) rfl rfl;subst Y i;let⟨u1,u2,rfl,r1,r2⟩:=zny r;obtain rfl:u1=Ξ.ref e:=r1;exact zpf o O N λs' I'=>⟨.non,l,I',rfl,q⟩
def zlK(h0:X.N[0]?=Φ ("self":Str))(l:X.N[1]?=Φ y)(m:Vis X.env.scope "self")(n:Vis X.env.scope y)(h:(y==("__debug__":Str))=Δ/\(y==("__classdict__":Str))=Δ):
  PS X (.Assign [.Attribute (.Name "self" o) f p8] (.Name y p) r) (λD b H=>∃e C v,b[0]?=Φ (Φ (.ref e))/\b[1]?=Φ (Φ v)/\H e=Φ (XN e C)/\Xc X.K C fI f/\∀c od,H c=Ψ->c≠e->D.nx b (upd (upd H c (.frz od (.xd [(f,v)]))) e (XD e C c))):=by
 intro a s b H D I j;let⟨e,C,v,t,w,A,B,q⟩:=j;refine plainObj_wpAny_Assign_Attribute (thn ((show PE X (.Name y p) _ from zem l n h.1 h.2) a s b H (λu d=>u=v/\d=H) I ⟨v,w,rfl,rfl⟩) λu E ⟨z,d,G,J,L,M⟩=>thn ((show PE X (.Name "self" o) _ from zem h0 m) a E b d (λu i=>u=.ref e/\i=d) G ⟨_,t,rfl,rfl⟩) λN s2 k=>?_) rfl;let⟨x,i,O,Q,T,g⟩:=k;subst L M T g;obtain rfl:N=Ξ.ref e:=Q;exact zpF O B A J λc od s' U Y I'=>⟨b,_,I',q c od U Y⟩
end
def zpg{K}{st}(l:FunV K "__init__" b st .none fI m)(S:XSt st n y f)(u:XUp K d n):
  FnOk P w K d base CX0 (k+1) fI m ["self",y] (spI K fI f):=by
 let⟨o,j,L,M,N,O,T,U,Y,p8,p9,p,r,t⟩:=S.body;refine l.ok S.sc (λx H Q E z=>by let⟨e,C,v,h,_⟩:=z;rw[h];rfl) λc A a s H x Q E hr h=>?_;let⟨e,C,v,rfl,g,i,q⟩:=h;rw[r];exact⟨_,zaC (zeT (zoE (X:=(cxOf CX0 P w K d base ["self",y] b (zac st) fI c A a s H E).nox) (fI:=fI) u S.gl S.n1 rfl (.inl S.v1) t)) (zaC (zlK (fI:=fI) rfl rfl (.inl S.v1) (.inl S.v2) S.n2) zeS),⟨e,C,rfl,g,i.ex,e,C,v,rfl,rfl,g,i,λB G I J=>q B G I J⟩⟩
section
variable{X:Cx}{pins:List (Addr×Obj)}{σ:L2.St}{H:Hp}{s:Ζ}{C fI:Addr}{f:Str}{k:Nat}{fd:FuncData}{ps:List Str}
def upd3(h:a≠e):upd (upd (upd H e i) a d) e g=upd (upd H a d) e g:=by funext b;unfold upd;by_cases c:b=e;simp[c];simp[c]
def zfr(F:FnOk X.prog X.w X.K X.mg X.base CX0 k fI fd ps (spI X.K fI f))(M:Room (k+1) X.A)(O:Binds X.K fd ps [])(c:Xc X.K C fI f)(I:Inv X pins σ H s)(U:RelV v u)(h:∀e a od s',H e=Ψ->H a=Ψ->a≠e->s.heap.objs.size<=e->Inv X pins σ (upd (upd H a (.frz od (.xd [(f,v)]))) e (XD e C a)) s'->Q (.ref e) s'):wpAny (model X.prog X.w) X.A (call (.ref C) [u]) Q X.xe s:=by
 let⟨nm,q,N,bs,bm,A,sn,sub,ab,Y,dd,k0,j,i,k3,k5,mN,hC,hn,hi,T⟩:=(zns I.kIn c.ex).ex;obtain⟨l,n,p⟩:∃l,s.heap.get? fI=Φ l/\l.cls=.type "function":=by have z:=beq_iff_eq.mp c.fn;unfold PySem.W.typeIn at z;cases e:X.K.lookup fI with|none=>simp[e]at z|some o=>exact⟨o,I.kIn _ _ e,by simpa[e]using z⟩
 let⟨hh,g,d,t,os⟩:=s;refine zmo PySem.F.excBase_ValueError T hC hn hi n p (λh' e m z=>?_) (by show 1<=sizeLine;rw[Χ];lia);let⟨t0,e1,_⟩:=m.there;have w:=I.laid (t':=t) m.keeps z (XN.ok e1);have B:Vals [V.ref e,v] [Ξ.ref e,u]:=.cons rfl (.cons U .nil);have he:H e=Ψ:=I.hok.fresh z;have E:spI X.K fI f [.ref e,v] (upd H e (XN e C)) (λG J=>G=.non/\∃a od,(upd H e (XN e C)) a=Ψ/\a≠e/\J=upd (upd (upd H e (XN e C)) a (.frz od (.xd [(f,v)]))) e (XD e C a)) E0:=⟨e,C,v,rfl,zag,c,λa od j i=>⟨rfl,a,od,j,i,rfl⟩⟩;refine ϟ (ϕ (F.run _ X.stack _ _ ⟨[Ξ.ref e,u],[]⟩ [Ξ.ref e,u] _ _ E0 (M.make C [u] []) (w.env0.make C [u] []) (O _ [Ξ.ref e,u] w.kIn (by have:=B.length;rw[F.len _ _ _ _ E]at this;exact this.symm)) B E) λr s' b=>?_);cases r with
 |error x=>exact False.elim b| ok fl=>
  cases fl with
  |ret u'=>
   let⟨G,J,L,y,ev,a,od,j,i,eH⟩:=w.after b;subst ev eH;refine⟨y,h e a od s' he ?_ i z ?_⟩
   . rwa [zaf i]at j
   rw[upd3 i]at L;exact L
  |next=>exact False.elim b|brk=>exact False.elim b|cont=>exact False.elim b
def znc{H0}(I:Inv X pins σ (upd H0 e (XD e C a)) s):Inv X pins σ (upd H0 e (XO e C a)) s:=by let⟨⟨t,b⟩,_⟩:=(show ObjOk X.prog X.w _ s.heap e (XD e C a) from I.hok e _ zag);have:=I.write (t':=s.toks) (by rw[zag];exact True.intro) (.inl rfl) (λ_ _ _ q=>q) ⟨_,b⟩ (XO.ok b (by show 1<6;decide));rw[znz]at this;exact this
end
section
variable{M:Model}{A:ϐ}{E:Ξ->Ζ->Prop}{s:Ζ}{env:Env}
variable{nm q:Str}{C N:Addr}{bs bm:List Ξ}{hdct:Bool}{sn:List Str}{sub:List Ξ}{ab:Bool}{col:Option Bool}{dd:Option Addr}{k0 k1 k2 k3 k5:Option Ξ}{newId:String}
def zlD(i:A.handled=Ψ)(h:wpAny M A x (λv a=>∃e t c nm q N bs bm hdct sn sub ab col dd k0 k1 k2 k3 k5 newId,v=.ref e/\a.heap.get? C=Φ (excClassObj nm q C N bs bm hdct sn sub ab col dd k0 k1 k2 k3 k5 newId)/\bm.contains (.type "BaseException")=Γ/\
   a.heap.get? e=Φ (newX (.ref C) c t)/\E (.ref e) a) E s):wpAny M A (raiseStmt env (Φ x) Ψ) Q E s:=by
 refine Θ (Τ h (λv a j=>?_) λ_ _ z=>z);let⟨e,t,c,nm,q,N,bs,bm,hdct,sn,sub,ab,col,dd,k0,k1,k2,k3,k5,newId,rfl,f,k,l,m⟩:=j;have b:(Ξ.ref C::bm).contains (.type "BaseException")=Γ:=by rw[Ϣ,k,Bool.or_true]
 repeat (first|with_reducible refine wpAny_loadPart_at l ?_|with_reducible refine wpAny_loadPart_at f ?_|(with_reducible refine wpAny_isSubtype_exc f ?_;rw[b])|wp_step)
 exact wpAny_raiseNew_none i m
end
section
variable{X:Cx}{C fI:Addr}{f x:Str}{k:Nat}{fd:FuncData}{ps:List Str}{te:TE}{e:Expr}{np cpos pos:Pos}
def zsQ(F:FnOk X.prog X.w X.K X.mg X.base CX0 k fI fd ps (spI X.K fI f))(o:Room (k+1) X.A)(p:Binds X.K fd ps [])(c:Xc X.K C fI f)(t:Gl X x)(u:X.mg x=Φ (.ref C))(hk:keepIn X.K (.ref C)=Γ)(w:PE X e te)(g:zai e=Γ)(j:(x==("__debug__":Str))=Δ) :
  PE X (.Call (.Name x np) [e] [] cpos) (λl H Q=>te l H λv d=>∀a b od,d a=Ψ->d b=Ψ->b≠a->Q (.ref a) (upd (upd d b (.frz od (.xd [(f,v)]))) a (XO a C b))):=by
 intro i s l H Q I h;refine ώ (zbn I t u ?_ j);refine callWith_K I.ok.mod.kin hk (thn ((show PA X [e] _ from zaT w zcs (zah g _ _)) cpos i s l H (λm d=>match m with | [v]=>∀a b od,d a=Ψ->d b=Ψ->b≠a->Q (.ref a) (upd (upd d b (.frz od (.xd [(f,v)]))) a (XO a C b))|_=>False) I h) λL M z=>eY z λm d n r q=>⟨n.kIn,?_⟩) (zah g _ _) rfl;cases r with|nil=>exact q.elim| cons y A=>cases A with|nil=>exact zfr F o p c n y λa b od N B E G _ J=>⟨.ref a,_,znc J,rfl,q a b od B E G⟩|cons _ _=>exact q.elim
def znD{lo}:Trc h a #[.ref t,.none,.none,.none,.bool Δ,.none] lo:=.inl rfl
def zlI(F:FnOk X.prog X.w X.K X.mg X.base CX0 k fI fd ps (spI X.K fI f))(E:Room (k+1) X.A)(G:Binds X.K fd ps [])(c:Xc X.K C fI f)(J:Gl X x)(L:X.mg x=Φ (.ref C))(hk:keepIn X.K (.ref C)=Γ)(M:PE X e te)(i:zai e=Γ)(m:(x==("__debug__":Str))=Δ)(O:X.calm=Γ) :
  PS X (.Raise (Φ (.Call (.Name x np) [e] [] cpos)) Ψ pos) (λD j H=>te j H λv g=>∀a d od b s',g a=Ψ->g d=Ψ->d≠a->Inv X b j (upd (upd g d (.frz od (.xd [(f,v)]))) a (XO a C d)) s'->Fly X.s₀.heap.objs.size (upd (upd g d (.frz od (.xd [(f,v)]))) a (XO a C d)) s'.heap a->X.xe (.ref a) s'):=by
 intro b s j H D I h;refine Θ (wpAny_standAt (zlD (C:=C) (I.ok.hd O) ?_));refine Θ (ώ (zbn I J L ?_ m));refine callWith_K I.ok.mod.kin hk (thn ((show PA X [e] _ from zaT M zcs (zah i _ _)) cpos b s j H (λA g=>match A with | [v]=>∀a d od b s',g a=Ψ->g d=Ψ->d≠a->Inv X b j (upd (upd g d (.frz od (.xd [(f,v)]))) a (XO a C d)) s'->Fly X.s₀.heap.objs.size (upd (upd g d (.frz od (.xd [(f,v)]))) a (XO a C d)) s'.heap a->X.xe (.ref a) s'|_=>False) I h) λus s1 z=>eY z λA g n r q=>⟨n.kIn,?_⟩) (zah i _ _) rfl;cases r with|nil=>exact q.elim| cons Q U=>cases U with|cons _ _=>exact q.elim| nil=>refine zfr F E G c n Q λa d od s' Y k2 k3 kz o=>Θ (wpAny_standAt (Ω ?_));let⟨nm,q',N,bs,bm,l,sn,sub,ab,p,dd,k0,u,w,y,k5,mN,hC,hn,hi,T⟩:=(zns o.kIn c.ex).ex;let⟨⟨t,B⟩,_⟩:=(show ObjOk X.prog X.w _ s'.heap a (XD a C d) from o.hok a _ zag);refine⟨a,t,Φ d,nm,q',N,bs,bm,l,sn,sub,ab,p,dd,k0,u,w,y,k5,_,rfl,hC,T.hasType rfl,B,?_⟩;refine q a d od b s' Y k2 k3 (znc o) ⟨⟨C,d,_,_,zag,B,znD,λT hT=>?_⟩,le_trans n.sz kz⟩;cases hT
end
noncomputable abbrev mkC(X:Cx)(e:Ξ):Cx:={X with A:=X.A.mark (Φ e),calm:=Δ,xe:=λ_ _=>False}
section
variable{X:Cx}{pins:List (Addr×Obj)}{σ:L2.St}{H:Hp}{s:Ζ}
def zhI(I:Inv X pins σ H s)(e):Inv (mkC X e) pins σ H s:=⟨⟨I.ok.mod,I.ok.kind,I.ok.glob,I.ok.blt,I.ok.above,I.ok.inj,I.ok.has,I.ok.cab,(λz=>nB z),I.ok.frames,I.ok.stk,I.ok.exf,I.ok.bs,I.ok.bsz,I.ok.noex,I.ok.exfs,I.ok.funs,I.ok.frf⟩,I.os,I.bare,I.base,I.loc,I.cell,I.free,I.freeC,I.pin,I.hok,I.len⟩
def ziz(ok:X.Ok)(I:Inv (mkC X e) pins σ H s):Inv X pins σ H s:=⟨ok,I.os,I.bare,I.base,I.loc,I.cell,I.free,I.freeC,I.pin,I.hok,I.len⟩
def zmh(I:Inv X pins σ H s)(nd:X.N.Nodup)(M:X.N[G]?=Φ n)(N:∀(i:Nat)(x:Str)(v:V),X.N[i]?=Φ x->σ[i]?=Φ (Φ v)->Vis X.env.scope x->∃u,RelV v u/\Look X.env s.heap m x u)(O:h'.Ns X.env.locals (λx=>if x=n then v else m x))(Q:Heap.SameBut X.env.locals s.heap h'):
  Inv X pins (σ.set G Ψ) H {s with heap:=h',toks:=t'}:=by
 have k:∀b o,b≠X.env.locals->s.heap.get? b=Φ o->h'.get? b=Φ o:=λb o h q=>(Q.2 b h).trans q;have f:∀b o,X.s₀.heap.get? b=Φ o->b≠X.env.locals:=λb o e=>ne_of_lt (lt_of_lt_of_le (Β e) I.ok.above);have a:∀x c,X.env.cells.lookup x=Φ c->∀v,s.heap.IsCell c v->h'.IsCell c v:=λx c e v j=>(by let⟨o,T,U⟩:=j;exact ⟨o,k c o (I.cne x c e) T,U⟩);refine⟨I.ok,I.os,I.bare,⟨λb o e n h t=>k b o (f b o e) (I.base.keep b o e n h t),λb o e n h t=>?_,I.base.free,λb o e t=>?_,I.base.tups,I.base.frzs,I.base.tbls⟩,⟨_,O,λi x u J g Y=>?_⟩,λx c e=>?_,I.free,I.freeC,λp hp=>?_,λb o e=>?_,by rw[List.length_set];exact I.len⟩;let⟨sl,q⟩:=I.base.slot b o e n h t;exact⟨sl,k b _ (f b o e) q⟩;let⟨o',q⟩:=I.base.there b o e t;exact⟨o',k b _ (f b o e) q⟩;have A:i≠G:=λz=>by subst z;rw[getElem?_set]at g;simp![if_true]at g;split at g<;>cases g
 rw[getElem?_set_ne (Ne.symm A)]at g;let⟨w,r,l⟩:=N i x u J g Y;have E:x≠n:=λz=>A (by
  let⟨C,e1⟩:=Α.mp J;let⟨B,e2⟩:=Α.mp M;exact(List.getElem_inj nd).mp (e1.trans (z.trans e2.symm)))
 refine⟨w,r,?_⟩;rcases l with⟨C,B⟩|⟨C,c,B,a3⟩;exact .inl ⟨C,by show(if x=n then v else m x)=_;rw[if_neg E];exact B⟩;exact .inr ⟨C,c,B,a x c B _ a3⟩;let⟨v,z⟩:=I.cell x c e;exact⟨v,a x c e v z⟩;let⟨e,n,L,nf,d⟩:=I.pin p hp;exact⟨k _ _ L e,n,L,nf,d⟩;refine(I.hok b o e).stay (λc u hc q=>k c u (λz=>?_) q) (λ_ q=>q) λ_ _ q=>q;have:H c≠Ψ:=by rcases hc with y|y<;>(first|(rw[y,e];simp)|(rw[y];simp))
 exact this (by rw[z];exact I.free)
end
section
variable{X:Cx}{pins:List (Addr×Obj)}{σ:L2.St}{H:Hp}{s:Ζ}{a C dx CR:Addr}{lo ie ix:Nat}{xR n y:Str}{np p1 p2 p3 hp:Pos}{D:Ends}
def zc1(I:Inv X pins σ H s)(stk:X.stack=X.env::X.outer)(d:X.env.frame=Φ X.env.locals)(f:Fly lo H s.heap a)(l:X.s₀.heap.objs.size<=lo)(b:∀p∈X.pn++pins,p.1<lo)(h:∀s',Inv X pins σ H s'->Fly lo H s'.heap a->Q () s'):wpAny M A (setFlight (.ref a) e) Q E s:=by let⟨C,dx,m,o,q,c,g,r⟩:=id f.ex;rcases g with t|t;refine Θ (ϣ c rfl t ?_);exact Ω (h s I f);refine zkB (by rw[<-stk];exact I.stack) c rfl t λu i=>?_;let⟨j,k⟩:=zcy I stk d f l b c rfl i;exact h _ j k
def zmz(I:Inv X pins σ H s)(stk:X.stack=X.env::X.outer)(j:X.env.frame=Φ X.env.locals)(e:Fly lo H s.heap a)(l:X.s₀.heap.objs.size<=lo)(J:lo<=s.heap.objs.size)(b:∀p∈X.pn++pins,p.1<lo)(cl:H a=Φ (XO a C dx))
  (L:PySem.W.exmOne X.K (.ref C) (.ref CR)=Φ Γ) (M:Gl X xR) (N:X.mg xR=Φ (.ref CR)) (k:(xR==("__debug__":Str))=Δ) (nd:X.N.Nodup) (f:X.N[ie]?=Φ n) (O:X.N[ix]?=Φ y) (g:X.env.scope.names.lookup n=Φ .local) (Q:Loc X.env.scope y)
  (T:X.fn y=Γ\/X.env.scope.names.lookup y=Φ .local) (U:(n==("__debug__":Str))=Δ) (Y:(n==("__classdict__":Str))=Δ) (o:ie≠ix) (q:D.nx ((σ.set ie Ψ).set ix (Φ (.ref a))) H) :
  wpAny (model X.prog X.w) X.A (noteFrame (.ref a) X.env) (λ_ s2=>wpAny (model X.prog X.w) X.A (setFlight (.ref a) Ψ) (λ_ x=>wpAny (model X.prog X.w) X.A (handleBy (.ref a) X.env [.ExceptHandler (Φ (.Name xR np)) (Φ n) [.Assign [.Name y p1] (.Name n p2) p3] hp]) (SP X pins D) X.xe x) X.xe s2) X.xe s:=by
 let⟨C0,dx0,vs,sl,h1,A,tr,h4⟩:=id e.ex;refine zhp (by rw[I.ok.frames,stk]) (by rw[<-stk];exact I.stack) j A rfl tr J λB nt=>?_;let⟨h,f1⟩:=zcy I stk j e l b A rfl nt;refine wpAny_handleBy_cons (codeAny_handlers_test (zbn (zhI h (.ref a)) M N ?_ k)) (by intro z;cases z);let⟨vs2,sl2,e2,_⟩:=(show ObjOk X.prog X.w H B a (XO a C dx) from h.hok a _ cl).1;have LT:PySem.W.Looks (model X.prog X.w) B (typeOf (.ref a)) (.ref C):=(PySem.W.Looks.ld e2).andThen .now;refine(PySem.W.exm_one h.kIn LT L).here ?_;refine codeAny_handlers_suite_as (zc1 h stk j f1 l b λx E f3=>zeI E nd f (.inl g) (v:=.ref a) rfl (λs4 I4=>?_) (.inr g));have pv:PE (mkC X (.ref a)) (.Name n p2) (tVar ie):=zem f (.inl g) U Y;have hb:=zaC (zel (X:=mkC X (.ref a)) (pos:=p3) (pos':=p1) nd O Q pv (by rfl) T) zeS pins s4 (σ.set ie (Φ (.ref a))) H {nx:=λc G=>c=(σ.set ie (Φ (.ref a))).set ix (Φ (.ref a))/\G=H,rt:=λ_ _=>False} (zhI I4 _)
  ⟨.ref a,by rw[getElem?_set_self (by rw[E.len];exact(Α.mp f).1)],rfl,rfl⟩
 refine Τ hb (λe s5 z=>?_) λ_ _ z=>z.elim;cases e with
 |next=>
  let⟨c,G,i,rfl,rfl⟩:=z;have i:=ziz I.ok i;let⟨m,r,t⟩:=id i.loc;have d:(X.env.scope.kind==.class||(X.env.scope.kind==.module&&X.env.locals != X.env.globals))=Δ:=by rw[I.ok.kind];rfl
  refine wpAny_nameGoes_keeps (show X.env.kindOf n=Φ .local from g) r d λh6 v w sb=>?_;have I6:=zmh (t':=s5.toks+1) i nd f t w sb;refine⟨_,_,I6,?_⟩;rw[List.set_comm _ _ (Ne.symm o),List.set_set];exact q
 |ret u=>let⟨_,_,_,_,_,z⟩:=z;exact z.elim|brk=>let⟨_,_,_,z⟩:=z;exact z.elim|cont=>let⟨_,_,_,z⟩:=z;exact z.elim
end
section
variable{T:Tab}{cf:CF}{k:Nat}{N:List Str}{sc:Scope}{X:Cx}{pos p:Pos}{rest:List Stmt}
def zdO(h:zc9 S x=Φ (c,a)):∃l,x=.ref l/\S.get l=Φ (.exc c a):=by
 cases x with
 |ref l=>
  simp![zc9]at h;cases e:S.get l with
  |none=>rw[e]at h;exact nS h
  |some o=>rw[e]at h;cases o with|exc d b=>cases h;exact⟨l,rfl,e⟩|_=>exact nS h
 |_=>exact nS h
def zq2(m:RH X.K ι H S)(r:RV X.K ι H d v)(n:Mks.xc[c]?=Φ C)(o:H a=Ψ)(g:H b=Ψ)(h:b≠a):
  Ext ι H (ι++[a]) (upd (upd H b (.frz od (.xd [(f,v)]))) a (XO a C b))/\RH X.K (ι++[a]) (upd (upd H b (.frz od (.xd [(f,v)]))) a (XO a C b)) (S.push (.exc c [(f,d)])):=by
 have e:=m.new g (.frz od (.xd [(f,v)]));have i:Ext ι H ι (upd H b (.frz od (.xd [(f,v)]))):=Ext.new g _;have j:(upd H b (.frz od (.xd [(f,v)]))) a=Ψ:=by rw[zaf (Ne.symm h)];exact o
 have l:=Ext.obj e j (XO a C b);refine⟨i.trans l,e.obj' j (XO a C b) (.exc c [(f,d)]) ⟨C,b,od,[(f,v)],n,zag,?_,v,[],rfl,(r.ext i).ext l,rfl⟩⟩;rw[zaf h,zag]
def zng(I:Inv X d o H s)(i:H a=Φ (XO a C b))(j:H b=Φ (.frz od (.xd ws))):
  ∃ox,PySem.W.InstAt s.heap a ox C (Φ od)/\∃c:Str->Option Ξ,(∀f,lookIn f od=Φ (c f))/\∀f,RelO (ws.lookup f) (c f):=by
 let⟨q,t,e,_⟩:=(show ObjOk X.prog X.w H s.heap a (XO a C b) from I.hok a _ i).1;let⟨g,c,n,r⟩:=(show ObjOk X.prog X.w H s.heap b (.frz od (.xd ws)) from I.hok b _ j);let⟨l,h,m⟩:=zfI n;rw[g]at h;cases h;exact⟨_,⟨e,rfl,rfl,g⟩,c,m,r⟩
def zn3(G:Gd T cf k N sc X)(ha:PE X a (tE X.K cf ca))(i:zaN a=Γ)(hf:T.xflds.contains f=Γ):PE X (.Attribute a f pos) (tE X.K cf (.fldX ca f)):=by
 intro j s σ H Qv I y;let⟨δ,ι,S,Q,hs,hh,w,q⟩:=y;change W (Out.bind _ _) _ at w;simp![zab] at w;refine zk3 (zbE i f X.env _) (thn (ha j s σ H (λv h=>∃b C m B t u,v=.ref b/\XGet X.K C/\NoAttr X.K C f/\h b=Φ (XO b C m)/\h m=Φ (.frz B (.xd t))/\t.lookup f=Φ u/\Qv u h) I (tE.run hs hh w λd v ι1 h S1 x1 hs1 A r1 w1=>?_)) λu s1 z=>?_);let⟨u,e,w2⟩:=zau w1;cases L:zc9 S1 d with
 |none=>rw[L]at e;exact nS e
 |some pr=>let⟨c,fs⟩:=pr;rw[L]at e;have e:fs.lookup f=Φ u:=e;let⟨l,rfl,M⟩:=zdO L;let⟨b,i1,rfl⟩:=r1;let⟨b',O,C,m,B,t,hC,h1,h2,rf⟩:=A.obj l _ M;rw[i1]at O;cases O;let⟨g,n⟩:=G.tab.xtb.fl f hf c C hC;rcases rf.look f with⟨z,_⟩|⟨d',v',U,z2,z3⟩;rw[e]at z;cases z;rw[e]at U;cases U;exact⟨b,C,m,B,t,v',rfl,g,n,h1,h2,z2,q _ _ (Lf.up x1 (Lf.of A z3 w2))⟩
 let⟨x,h,E,rx,b,C,m,B,t,v,ex,g,n,e1,e2,e3,q1⟩:=z;subst ex;obtain rfl:u=Ξ.ref b:=rx;let⟨ox,J,mA,M,r⟩:=zng E e1 e2;let⟨u',hu,Y⟩:=RelO.some_of (by rw[<-e3];exact r f);exact zmp E.kIn J g.ga g.gh g.sb (PySem.W.findObj_own g.hd n rfl (by rw[M,hu])) (zfU Y) ⟨v,h,E.tok _,Y,q1⟩
def zh1(D)(e)(rd:∀u,RelV e u->u=D):zbi X (.builtin "isinstance") (λxs H Q=>∃a C d od ws b,xs=[.ref a,e]/\H a=Φ (XO a C d)/\H d=Φ (.frz od (.xd ws))/\XGet X.K C/\IsaOk X.K C/\kitOne X.K (.ref C) D=Φ b/\Q (.bl b) H):=by intro f s v H xs w Q I r h;let⟨a,C,d,od,ws,b,rfl,i,j,g,c,l,q⟩:=h;let⟨u,m,rfl,n,o⟩:=zny r;cases rd m o;cases(show u=Ξ.ref a from n);let⟨ox,J,_⟩:=zng I i j;exact kia_one (zpn g.ga g.gh g.sb g.hd c.ha c.hn c.ht c.hm) I.kIn J l (λz=>by cases z) λt=>⟨.bl b,H,I.tok t,rfl,q⟩
def zkj{D}(hD:∀(c:Nat) C,Mks.xc[c]?=Φ C->XGet X.K C/\IsaOk X.K C/\kitOne X.K (.ref C) D=Φ (m.contains c))(h:tE X.K cf (.iscX m x n) o H r):
  tCB (λxs H Q=>∃a C f od ws b,xs=[.ref a,t]/\H a=Φ (XO a C f)/\H f=Φ (.frz od (.xd ws))/\XGet X.K C/\IsaOk X.K C/\kitOne X.K (.ref C) D=Φ b/\Q (.bl b) H) (zgm (tE X.K cf n) (zgm (tC t) tNil)) o H r:=by
 let⟨δ,ι,S,Q,s,u,w,q⟩:=h;change W (Out.bind _ _) _ at w;simp![zab] at w;refine tE.run s u w λd v y H1 S1 z A e B E=>?_;let⟨G,I,J⟩:=zau E;let⟨c,fs⟩:=G;let⟨l,rfl,L⟩:=zdO I;let⟨b,M,rfl⟩:=B;let⟨b',j,C,f,od,ws,O,U,Y,rf⟩:=e.obj l _ L;rw[M]at j;cases j;let⟨g,ok,i⟩:=hD c C O;exact⟨b,C,f,od,ws,_,rfl,U,Y,g,ok,i,q _ _ (Lf.up z (Lf.of (d:=.bl _) e rfl J))⟩
def zn1(G:Gd T cf k N sc X)(c:Gl X "isinstance"/\X.mg "isinstance"=Ψ)(g:isGl sc x=Γ)(hd:(x==("__debug__":Str))=Δ)(b:(T.xisas.contains (x,d)||T.xisbs.contains (x,d))=Γ)(i:PE X e (tE X.K cf j))(a:zai e=Γ):PE X (.Call (.Name "isinstance" p) [e,.Name x q] [] pos) (tE X.K cf (.iscX d x j)):=by
 rw[ϙ]at b;rcases b with b|b;let⟨D,f,hD⟩:=G.tab.xtb.is x d b;exact PE.imp (zbl (zh1 (.ref D) (.ref D) λu z=>z) c.1 c.2 zbB (zaT i (zaT (zeU (v:=.ref D) (G.gl g) f rfl hd) zcs) (zah a _ X.env)) (by decide) (by decide) (zah a _ X.env)) λl H m h=>zkj hD h;let⟨f,n,t,o,hD⟩:=G.tab.xtb.ib x d b;exact PE.imp (zbl (zh1 (.type t) (.ty t) λu z=>z) c.1 c.2 zbB (zaT i (zaT (zjO (v:=.ty t) (G.gl g) f o rfl n hd) zcs) (zah a _ X.env)) (by decide) (by decide) (zah a _ X.env)) λl H m h=>zkj hD h
def zlg(G:Gd T cf k N sc X)(n:T.xcs.contains (c,x,f)=Γ)(o:isGl sc x=Γ)(hd:(x==("__debug__":Str))=Δ)(q:PE X e (tE X.K cf r))(i:zai e=Γ):
  PSs X (.Raise (Φ (.Call (.Name x np) [e] [] m)) Ψ pos::rest) (tS X cf (.rais c x f r)):=by
 let⟨C,fI,fd,ps,s,t,u,y,F,A⟩:=G.tab.xtb.cl c x f n;refine PSs.imp (zaC (zlI F G.room' A y (G.gl o) t u q i hd G.calm) (show PSs X rest (λ_ _ _=>False) from λ_ _ _ _ _ _ h=>h.elim)) λE B H z=>?_;let⟨δ,ι,S,Q,I,J,w,l⟩:=z;change W (Out.bind _ _) _ at w;simp![zab] at w;refine tE.run I J w λd v L H1 S1 M O b U Y=>?_;intro a dx od g s' k1 k2 k3 I' f';let⟨x2,j⟩:=zq2 b U s k1 k2 k3;exact l _ _ _ _ (M.trans x2) j Y a B g s' ⟨a,b.last a,rfl⟩ I' f'
abbrev zmO(X:Cx)(sp:Sp)(t:TA):TE:=λc H Q=>t c H λh f=>∃E,sp h f Q E/\∀b g a d e,Inv X b c f g->Inv X b c d e->Fly g.heap.objs.size d e.heap a->E (.ref a) Ψ d->X.xe (.ref a) e
def zde(F:FnOk X.prog X.w X.K X.mg X.base (CXe X.prog X.w) k w A y sp)(B:Room k X.A)(C:Gl X x)(G:X.mg x=Φ (.ref w))(hk:keepIn X.K (.ref w)=Γ)(J:Binds X.K A y [])(L:PA X (e::es) t)(l:(x==("__debug__":Str))=Δ)(M:starEach (e::es) X.env=(Δ,eval e X.env)::starEach es X.env)(m:(backTo pos (starEach es X.env)).any (·.1)=Δ):PE X (.Call (.Name x p) (e::es) [] pos) (zmO X sp t):=by
 intro c s O H Q I h;refine ώ (zbn I C G ?_ l);refine callWith_K I.ok.mod.kin hk (thn (L pos c s O H _ I h) λj n ⟨U,Y,d,r,E,q,qx⟩=>⟨d.kIn,?_⟩) M m;have hl:(j++[]).length=y.length:=by rw[Ϟ,<-r.length];exact F.len _ _ _ _ q
 have f:=J n j d.kIn hl;rw[Ϟ]at f;refine ϟ (ϕ (F.run X.A X.stack n Y ⟨j,[]⟩ j U Q E B d.env0 f r q) λr s' g=>?_);cases r with| error x=>let⟨a,H',rfl,os,i,un,o,v,hE⟩:=g;exact qx c n a H' s' d (d.call' os un o i (λb z=>absurd z (by simp))) v hE| ok v=>cases v with|ret u=>exact d.after g|next=>exact False.elim g|brk=>exact False.elim g|cont=>exact False.elim g
abbrev XErr(X:Cx)(g:L2.St)(ι:List Addr)(H:Hp)(d:D)(S1:R.St):Prop:=∀a c e f lo b,Ext ι H c e->RV X.K c e d (.ref a)->RH X.K c e S1->Inv X b g e f->Fly lo e f.heap a->X.s₀.heap.objs.size<=lo->lo<=f.heap.objs.size->(∀p∈X.pn++b,p.1<lo)->X.xe (.ref a) f
def zdR(q:CFok cf)(hs:RS X.K ι H δ J)(Y:RH X.K ι H S)(e:evEs cf u δ S=.ok ds S1)(h:match appX cf f ds S1 with|.ok d o=>∀v b H',Ext ι H b H'->RV X.K b H' d v->RH X.K b H' o->Qv v H'|.err d o=>XErr X J ι H d o|.bad=>False):zmO X (spX X.K cf f) (tAs X.K cf u) J H Qv:=by
 refine tAs.run hs Y (Q:=λi w=>i=ds/\w=S1) (by rw[e];exact⟨rfl,rfl⟩) λi vs l H1 j L hs1 m M k=>?_;let⟨y,A⟩:=k;subst y A;unfold appX at h;cases n:cf f i j.enter with
 |ok d B=>
  rw[n]at h;dsimp only at h;refine⟨λ_ _ _=>False,⟨l,j.enter,i,M,m.enter,?_⟩,λ_ _ _ _ _ _ _ _ z=>z.elim⟩;rw[n];intro v H' b x r s;cases c:zbm j d B with
  |ok O o=>rw[c]at h;let⟨d2,C,S3,x2,r2,E,y,A⟩:=zdf (Q:=λa w=>a=O/\w=o) m x r s ((q _ _ _).1 _ _ n).frz (by rw[c];exact⟨rfl,rfl⟩);subst y A;exact h v C H' (L.trans x2) r2 E| err O o=>
   exfalso;unfold zbm at c;split at c;cases c;split at c
   . split at c
     all_goals first|(split at c<;>cases c)|cases c
   cases c
  |bad=>rw[c]at h;exact h.elim
 |err d B=>rw[n]at h;refine⟨λv _ H'=>∃a b,v=.ref a/\Ext l H1 b H'/\RV X.K b H' d (.ref a)/\RH X.K b H' B,⟨l,j.enter,i,M,m.enter,?_⟩,?_⟩;rw[n];exact λa H' b x r s=>⟨a,b,rfl,x,r,s⟩;rintro t s1 a H' s' U I' G ⟨a',b,z,x,r,s⟩;cases z;have I:=((q _ _ _).2 _ _ n).frz;let⟨_,_,_,_,_,g,_⟩:=id G.ex;exact h a b H' s' s1.heap.objs.size t (L.trans x) r (s.keep I) I' G U.sz (le_of_lt (Nat.lt_of_le_of_lt G.lo (Β g))) λp hp=>Β (U.pin p hp).1|bad=>rw[n]at h;exact h.elim
abbrev tB(X:Cx)(cf:CF)(b:TrB):TS:=λD i H=>∃j e S,RS X.K e H j i/\RH X.K e H S/\(match exT cf b j S with|.ok g h=>∀a f c,Ext e H a f->RS X.K a f g c->RH X.K a f h->D.nx c f|.err d h=>XErr X i e H d h|.bad=>False)
def zqS(G:Gd T cf k N sc X)(hf:T.xfns.contains f=Γ)(n:T.fns[f]?=Φ (x,o,nd))(q:isGl sc x=Γ)(hd:(x==("__debug__":Str))=Δ)(s:PA X (e::es) (tAs X.K cf b))(a:(e::es).all zai=Γ):
  PS X (.Expr (.Call (.Name x p) (e::es) [] L) pos) (tB X cf (.run f b)):=by
 let⟨M,O,F,t,u,w⟩:=G.tab.xtb.fn f x o nd hf n;rw[Ϥ,Ε]at a;refine PS.imp (zeT (zde F G.room (G.gl q) t u w s hd (zah a.1 es X.env) (zaA a.2)) (zbH rfl _ _ _)) λD y H z=>?_;let⟨A,Q,S,j,B,h⟩:=z;simp![exT]at h;cases c:evEs cf b A S with
 |ok C l=>rw[c]at h;dsimp only at h;refine zdR G.tab.frm j B c ?_;cases g:appX cf f C l with|ok d E=>rw[g]at h;exact λv i I m r J=>h i I y m (j.ext m) J|err d E=>rw[g]at h;exact h|bad=>rw[g]at h;exact h
 |err d l=>rw[c]at h;exact h.elim|bad=>rw[c]at h;exact h.elim
def zqU(G:Gd T cf k N sc X)(q:N[i]?=Φ y)(l:zb5 sc y=Γ)(hf:T.xfns.contains f=Γ)(s:T.fns[f]?=Φ (x,t,nd))(u:isGl sc x=Γ)(hd:(x==("__debug__":Str))=Δ)(w:PA X (e::es) (tAs X.K cf b))(a:(e::es).all zai=Γ):
  PS X (.Assign [.Name y Q] (.Call (.Name x p) (e::es) [] U) pos) (tB X cf (.asg i f b)):=by
 let⟨Y,fd,F,A,B,C⟩:=G.tab.xtb.fn f x t nd hf s;rw[Ϥ,Ε]at a;refine PS.imp (zel (by rw[G.nm];exact G.nd) (by rw[G.nm];exact q) (G.lc l).1 (zde F G.room (G.gl u) A B C w hd (zah a.1 es X.env) (zaA a.2)) (zbH rfl _ _ _) (G.lc l).2) λD σ H z=>?_;let⟨E,ι,S,m,I,h⟩:=z;simp![exT]at h;cases c:evEs cf b E S with
 |ok J n=>rw[c]at h;dsimp only at h;refine zdR G.tab.frm m I c ?_;cases g:appX cf f J n with|ok d L=>rw[g]at h;exact λv j M o r O=>h j M _ o ((m.ext o).set r i) O|err d L=>rw[g]at h;exact h|bad=>rw[g]at h;exact h
 |err d n=>rw[c]at h;exact h.elim|bad=>rw[c]at h;exact h.elim
def XErr.up(h:XErr X f ι H d S1)(x:Ext ι H c g):XErr X f c g d S1:=λa e i j lo b l=>h a e i j lo b (x.trans l)
def zqT(C:PT X c (tT X.K cf w))(E:PSs X A (tB X cf a))(G:PSs X B (tB X cf b)):PS X (.If c A B pos) (tB X cf (.ite w a b)):=by
 refine PS.imp (zrc C E G) λD U H k=>?_;let⟨j,Y,S,I,J,h⟩:=k;simp![exT]at h;cases o:evT cf w j S with
 |ok z x=>
  rw[o]at h;dsimp only at h;refine tT.run I J (Q:=λr L=>r=z/\L=x) (by rw[o];exact⟨rfl,rfl⟩) λr l H1 e q m n y=>?_;let⟨M,O⟩:=y;subst M O;cases r with
  |true=>refine⟨j,l,e,m,n,?_⟩;cases f:exT cf a j e with|ok s t=>rw[f]at h;exact λg u i v=>h g u i (q.trans v)|err d t=>rw[f]at h;exact XErr.up h q|bad=>rw[f]at h;exact h
  |false=>refine⟨j,l,e,m,n,?_⟩;cases f:exT cf b j e with|ok s t=>rw[f]at h;exact λg u i v=>h g u i (q.trans v)|err d t=>rw[f]at h;exact XErr.up h q|bad=>rw[f]at h;exact h
 |err d x=>rw[o]at h;exact h.elim|bad=>rw[o]at h;exact h.elim
def zjf{st}(h:PS X st (tB X cf b)):PSs X [st] (tB X cf b):=PSs.imp (zaC h zeS) λD a H z=>z
abbrev zqm(X:Cx)(C:Addr)(sp:Sp)(e:List V)(t:TA):TE:=λf H Q=>t f H λj d=>∀x c,d x=Ψ->d c=Ψ->c≠x->
 ∃E,sp (.ref x::(j++e)) (upd (upd d c (.own x)) x (.ins C c [])) (λv l=>v=.non/\Q (.ref x) l) E/\∀b i a g h,Inv X b f (upd (upd d c (.own x)) x (.ins C c [])) i->Inv X b f g h->Fly i.heap.objs.size g h.heap a->E (.ref a) Ψ g->X.xe (.ref a) h
def zlS(M:Mk X.K C f)(F:FnOk X.prog X.w X.K X.mg X.base (CXe X.prog X.w) k f O G sp)(U:Room (k+1) X.A)(Y:Gl X x)(hm:X.mg x=Φ (.ref C))(hb:Binds X.K O G ds)(hd:Vals j ds)(ha:PA X (e::es) t)(o:(x==("__debug__":Str))=Δ)(he:starEach (e::es) X.env=(Δ,eval e X.env)::starEach es X.env)(w:(backTo pos (starEach es X.env)).any (·.1)=Δ):
  PE X (.Call (.Name x p) (e::es) [] pos) (zqm X C sp j t):=by
 intro g s σ H Q I h;refine ώ (zbn I Y hm ?_ o);refine callWith_K I.ok.mod.kin M.kp (thn (ha pos g s σ H _ I h) λi d z=>eY z λvs H1 l r q=>⟨l.kIn,?_⟩) he w;let⟨E,J,hx⟩:=q (d.heap.objs.size+1) d.heap.objs.size (l.hok.fresh (le_succ _)) (l.hok.fresh (le_refl _)) (ne_of_lt (ϖ _));have m:=Inv.made (C:=C) l;have L:Vals (V.ref (d.heap.objs.size+1)::(vs++j)) (Ξ.ref (d.heap.objs.size+1)::(i++ds)):=.cons rfl (r.append hd);have hl:(Ξ.ref (d.heap.objs.size+1)::i++ds).length=G.length:=by have e:=L.length;rw[F.len _ _ _ _ J]at e;exact e.symm
 refine ϟ (zhz l.kIn M.makes M.init (beq_iff_eq.mp M.fn) (ϕ (F.run _ X.stack _ _ ⟨Ξ.ref (d.heap.objs.size+1)::i,[]⟩ (Ξ.ref (d.heap.objs.size+1)::(i++ds)) _ _ E (U.make C i [])
  (m.env0.make C i []) (hb _ (Ξ.ref (d.heap.objs.size+1)::i) m.kIn hl) L J) λr s' c=>?_))
 cases r with| error e=>let⟨a,y,rfl,os,n,un,A,B,hE⟩:=c;exact hx g _ a y s' m (m.call' os un A n (λb z=>absurd z (by simp))) B hE| ok B=>cases B with| ret u=>let⟨v,y,I3,rv,ev,q3⟩:=m.after c;subst ev;exact⟨rv,⟨V.ref (d.heap.objs.size+1),y,I3,rfl,q3⟩⟩|next=>exact False.elim c|brk=>exact False.elim c|cont=>exact False.elim c
def ztn(G:Gd T cf k N sc X)(hi:T.inits.contains (c,f,j)=Γ)(hx:T.cls[c]?=Φ x)(hg:isGl sc x=Γ)(hd:(x==("__debug__":Str))=Δ)(ha:PA X (e::es) (tAs X.K cf E))(q:(e::es).all zai=Γ):
  PS X (.Expr (.Call (.Name x p) (e::es) [] cp) pos) (tB X cf (.mk c f x j E)):=by
 let⟨C,fa,fd,ps,hC,M,F,hb⟩:=(G.tab.inx c f j hi).ex;let⟨s,t,_,hm,_⟩:=G.clsAt (.inr (.inl (ne_of hi))) hC;rw[hx]at t;cases t;rw[Ϥ,Ε]at q;refine PS.imp (zeT (zlS M F G.room' (G.gl hg) hm hb (Vals.nons j) ha hd (zah q.1 es X.env) (zaA q.2)) (zbH rfl _ _ _)) λD σ H q'=>?_;let⟨δ,ι,S,hs,hh,h⟩:=q';simp![exT]at h;cases t:evEs cf E δ S with
 |ok ds S1=>
  rw[t]at h;dsimp only at h;unfold appW at h;refine tAs.run hs hh (Q:=λm S'=>m=ds/\S'=S1) (by rw[t];exact⟨rfl,rfl⟩) λm vs i A l x1 hs1 Y r1 u=>?_;let⟨z1,z2⟩:=u;subst z1 z2;intro y n hy I hne;have w:=Y.new I (.own y);have x2:Ext i A i (upd A n (.own y)):=Ext.new I _;have J:(upd A n (.own y)) y=Ψ:=by rw[zaf (Ne.symm hne)];exact hy
  have hh3:=w.obj' J (.ins C n []) (.ins c []) ⟨C,n,[],hC,zag,rfl⟩;have x3:Ext i (upd A n (.own y)) (i++[y]) (upd (upd A n (.own y)) y (.ins C n [])):=Ext.obj w J _;have x4:=(x1.trans x2).trans x3;refine⟨λv _ o=>∃d B a b,cf f (.ref l.len::(m++List.replicate j .non)) (l.push (.ins c []))=.err d B/\v=.ref a/\Ext (i++[y]) (upd (upd A n (.own y)) y (.ins C n [])) b o/\RV X.K b o d (.ref a)/\RH X.K b o B,⟨i++[y],l.push (.ins c []),.ref l.len::(m++List.replicate j .non),⟨.ref y,_,rfl,⟨y,w.last y,rfl⟩,RVs.append ((r1.ext x2).ext x3) (RVs.nons j)⟩,hh3,?_⟩,?_⟩;cases U:cf f (.ref l.len::(m++List.replicate j .non)) (l.push (.ins c [])) with
  |ok d B=>rw[U]at h;intro v o b s r L;cases d with|non=>exact⟨r,h b o σ (x4.trans s) (hs.ext (x4.trans s)) L⟩|_=>exact h.elim
  |err d B=>exact λa o b s r L=>⟨d,B,a,b,rfl,rfl,s,r,L⟩|bad=>rw[U]at h;exact h.elim
  rintro O s1 a o s' I1 I' fl ⟨d,B,a',b,U,z,s,r,L⟩;cases z;rw[U]at h;let⟨_,_,_,_,_,g,_⟩:=id fl.ex;exact h a b o s' s1.heap.objs.size O (x4.trans s) r L I' fl I1.sz (le_of_lt (Nat.lt_of_le_of_lt fl.lo (Β g))) λp hp=>Β (I1.pin p hp).1
 |err d S1=>rw[t]at h;exact h.elim|bad=>rw[t]at h;exact h.elim
def zqx{st}(q:PS X st (tB X cf b))(s:PSs X rest (tS X cf r)):PSs X (st::rest) (tS X cf (.blk b r)):=by refine PSs.imp (zaC q s) λE t H ⟨n,u,S,Q,v,x,w,l⟩=>⟨n,u,S,v,x,?_⟩;(conv at w=>lhs;whnf);cases e:exT cf b n S with|ok g h=>rw[e]at w;exact λc o y i j m=>⟨g,c,h,Q,j,m,w,l.up i⟩| err d h=>rw[e]at w;exact λa c o z lo f i A m B C G I J=>l (.ex d) c o h i m w a t f z A B (C.mono G)|bad=>rw[e]at w;exact w.elim
noncomputable abbrev pnC(X:Cx)(pn:List (Addr×Obj))(E:Ξ->Ζ->Prop):Cx:={X with pn:=pn,xe:=E}
def zko(I:Inv X b c H s)(h:∀p∈pn++a,p∈X.pn++b):Inv (pnC X pn E) a c H s:=⟨⟨I.ok.mod,I.ok.kind,I.ok.glob,I.ok.blt,I.ok.above,I.ok.inj,I.ok.has,I.ok.cab,I.ok.hd,I.ok.frames,I.ok.stk,I.ok.exf,I.ok.bs,I.ok.bsz,I.ok.noex,I.ok.exfs,I.ok.funs,I.ok.frf⟩,I.os,I.bare,I.base,I.loc,I.cell,I.free,I.freeC,λp d=>I.pin p (h p d),I.hok,I.len⟩
def zhH(ok:X.Ok)(I:Inv (pnC X pn E) a c H s)(h:∀p∈X.pn++b,p∈pn++a):Inv X b c H s:=⟨ok,I.os,I.bare,I.base,I.loc,I.cell,I.free,I.freeC,λp d=>I.pin p (h p d),I.hok,I.len⟩
def RS.unset{K}(h:RS K ι H δ c)(i):RS K ι H (δ.set i Ψ) (c.set i Ψ):=by
 refine⟨by simp[h.1],λj e a=>?_⟩;by_cases b:i=j
 . subst b;rw[getElem?_set]at a;simp![if_true]at a;split at a<;>cases a
 rw[getElem?_set_ne b]at a⊢;exact h.2 j e a
def zqt(G:Gd T cf k N sc X)(hb:∀pn E,PassesOwn (model X.prog X.w) X.A X.env E->PSs (pnC X pn E) A (tB (pnC X pn E) cf b))(stk:X.stack=X.env::X.outer)(fr:X.env.frame=Φ X.env.locals)(ht:T.xtrs.contains M=Γ)(hg:isGl sc M=Γ)(hdb:(M==("__debug__":Str))=Δ)(hn:N[ie]?=Φ n)(hy:N[ix]?=Φ y)(nl:sc.names.lookup n=Φ .local)(yl:zb5 sc y=Γ)(n1:(n==("__debug__":Str))=Δ)(n2:(n==("__classdict__":Str))=Δ)(hij:ie≠ix)(hr:PSs X rest (tS X cf r)):
  PSs X (.Try A [.ExceptHandler (Φ (.Name M np)) (Φ n) [.Assign [.Name y p1] (.Name n p2) p3] B] [] [] pos::rest) (tS X cf (.tryS b M ie ix r)):=by
 let⟨CR,hm,hx⟩:=G.tab.xtb.tr M ht;have ps:PS X (.Try A [.ExceptHandler (Φ (.Name M np)) (Φ n) [.Assign [.Name y p1] (.Name n p2) p3] B] [] [] pos) (λD O H=>∃t L S,RS X.K L H t O/\RH X.K L H S/\(match exT cf b t S with|.ok x o=>∀g i j,Ext L H g i->RS X.K g i x j->RH X.K g i o->D.nx j i|.err d o=>∀a g i,Ext L H g i->RV X.K g i d (.ref a)->RH X.K g i o->(∃c fs,zc9 o d=Φ (c,fs))/\D.nx ((O.set ie Ψ).set ix (Φ (.ref a))) i|.bad=>False)):=by
  intro m s O H D I v;let⟨t,L,S,hs,hh,h⟩:=v;refine wpAny_Try_except ?_;refine Τ (hb (X.pn++m) (λe s1=>wpAny (model X.prog X.w) X.A (noteFrame e X.env) (λ_ s2=>wpAny (model X.prog X.w) X.A (setFlight e Ψ) (λ_ s3=>wpAny (model X.prog X.w) X.A (handleBy e X.env [.ExceptHandler (Φ (.Name M np)) (Φ n) [.Assign [.Name y p1] (.Name n p2) p3] B]) (SP X m D) X.xe s3) X.xe s2) X.xe s1) PassesOwn.looking [] s O H {nx:=D.nx,rt:=λ_ _=>False} (zko I (by simp)) ⟨t,L,S,hs,hh,?_⟩) (λf s1 z=>?_) λ_ _ z=>z;cases e:exT cf b t S with|ok x o=>rw[e]at h;exact h|bad=>rw[e]at h;exact h| err d o=>rw[e]at h;intro a g i s' lo pins' U rv Y I' fl l1 l2 l3;have J:=zhH I.ok I' (λp B=>mem_append_left _ B);let⟨⟨c,fs,ec⟩,q⟩:=h a g i U rv Y;let⟨l,rfl,hl⟩:=zdO ec;let⟨b',i1,z⟩:=rv;let⟨b2,i2,C,dx,od,ws,hC,h1,h2,rf⟩:=Y.obj l _ hl;rw[i1]at i2;cases i2;cases z;exact zmz J stk fr fl l1 l2 (λp B=>l3 p (mem_append_left _ B)) h1 (hx c C hC) (G.gl hg) hm hdb (by rw[G.nm];exact G.nd) (by rw[G.nm];exact hn) (by rw[G.nm];exact hy) (G.loc n nl) (G.lc yl).1 (G.lc yl).2 n1 n2 hij q
  cases f with| next=>let⟨j,i,I',q⟩:=z;exact wpAny_execs_nil ⟨j,i,zhH I.ok I' (λp B=>mem_append_left _ B),q⟩|ret u=>let⟨_,_,_,_,_,z⟩:=z;exact z.elim|brk=>let⟨_,_,_,z⟩:=z;exact z.elim|cont=>let⟨_,_,_,z⟩:=z;exact z.elim
 refine PSs.imp (zaC ps hr) λE O H ⟨t,L,S,Q,hs,hh,w,l⟩=>⟨t,L,S,hs,hh,?_⟩;(conv at w=>lhs;whnf);cases e:exT cf b t S with|ok x o=>rw[e]at w;exact λg i j U hs' Y=>⟨x,g,o,Q,hs',Y,w,l.up U⟩|bad=>rw[e]at w;exact w.elim| err d o=>rw[e]at w;intro a g i U rv Y;dsimp only at w;split at w;rename_i c;let⟨⟨c,fs⟩,ec⟩:=Option.isSome_iff_exists.mp c;exact⟨⟨c,fs,ec⟩,(t.set ie Ψ).set ix (Φ d),g,o,Q,((hs.ext U).unset ie).set rv ix,Y,w,l.up U⟩;exact w.elim
end
def zl4(h:env.frame=a.frame):noteFrame e env=noteFrame e a:=by unfold noteFrame PySem.frameOf;rw[h]
noncomputable abbrev xeC(X:Cx)(E:Ξ->Ζ->Prop):Cx:={X with xe:=E}
section
variable{X:Cx}{E:Ξ->Ζ->Prop}{pins:List (Addr×Obj)}{σ:L2.St}{H:Hp}{s:Ζ}
def zkn(I:Inv X pins σ H s):Inv (xeC X E) pins σ H s:=zko I λ_ z=>z
def zcx(I:Inv (xeC X E) pins σ H s):Inv X pins σ H s:=zko (X:=xeC X E) I λ_ z=>z
def ztB(f:∀e s,X.xe e s->False)(h:PA X es t):PA (xeC X E) es t:=λpos pins s σ H Q I q=>Τ (h pos pins s σ H Q (zcx I) q) (λu c k=>(by let⟨v,a,b,r,q⟩:=k;exact ⟨v,a,zkn b,r,q⟩)) λ_ _ z=>(f _ _ z).elim
def zmZ(f:∀e s,X.xe e s->False)(h:PTs X es t):PTs (xeC X E) es t:=λpins s σ H Q I q=>Τ (h pins s σ H Q (zcx I) q) (λu c k=>(by let⟨a,b,q⟩:=k;exact ⟨a,zkn b,q⟩)) λ_ _ z=>(f _ _ z).elim
def zri(f:∀e s,X.xe e s->False)(h:PG X b t):PG (xeC X E) b t:=λpins s σ H v u Q I r q=>Τ (h pins s σ H v u Q (zcx I) r q) (λu g k=>(by let⟨a,c,d,q⟩:=k;exact ⟨a,c,zkn d,q⟩)) λ_ _ z=>(f _ _ z).elim
abbrev XEz(Z:Addr->Hp->Prop):Cx->Ξ->Ζ->Prop:=λY e f=>∃a c d b,e=.ref a/\Inv Y b c d f/\Fly Y.s₀.heap.objs.size d f.heap a/\Z a d
abbrev XOut(X:Cx)(σ:L2.St)(Z:Addr->Hp->Prop):Prop:=∀a c b lo pins,Z a c->Inv X pins σ c b->Fly lo c b.heap a->X.s₀.heap.objs.size<=lo->lo<=b.heap.objs.size->(∀p∈X.pn++pins,p.1<lo)->X.xe (.ref a) b
def zhY(out:XOut X σ Z)(n:Inv X pins σ H2 s2)(stk:X.stack=X.env::X.outer)(O:X.env.frame=Φ X.env.locals)(yf:Y.env.frame=X.env.frame)(l:X.s₀.heap.objs.size<=Y.s₀.heap.objs.size)(conv:∀f p H' s',Inv Y f p H' s'->Inv X pins σ H' s'/\(∃m,s'.heap.Ns C m)/\H' C=Ψ)(r:s2.heap.objs.size<C)(i:∀q∈X.pn++pins,q.1<Y.s₀.heap.objs.size)(hz:XEz Z Y e s'):
  notedBy (model X.prog X.w) X.A Y.env (λx Q=>compPost (model X.prog X.w) X.A X.xe use Qc acc C (.error x) Q) e s':=by
 let⟨a,p,H',f,rfl,IY,L,z⟩:=hz;let⟨I,⟨m,U⟩,u⟩:=conv _ _ _ _ IY
 let⟨K,dx,vs,sl,h1,h2,tr,h4⟩:=id L.ex;unfold notedBy;rw[zl4 yf];have aC:a≠C:=λz=>by rw[z,u]at h1;exact nS h1
 have hL:C≠X.env.locals:=ne_of_gt (lt_trans n.lt r);refine zrK (by rw[I.ok.frames,stk]) (by rw[<-stk];exact I.stack) O h2 rfl tr (le_of_lt (Nat.lt_of_le_of_lt L.lo (Β h2))) λh' nt=>?_;let⟨I1,f1⟩:=zcy I stk O L l i h2 rfl nt;have cf:C∉(X.env::X.outer).filterMap (·.frame):=λU=>by have w:=n.stack;rw[stk]at w;let⟨_,o,j,_⟩:=w.mem U;exact absurd (lt_trans (Β j) r) (lt_irrefl _)
 let⟨o,es,ep,j,M,k⟩:=U;have nv:vs[1]?≠Φ (.ref C):=λq=>by rcases tr with t|⟨T,oT,ts,N,t2,y,A,t5,t6⟩;rw[t]at q;cases q;rw[N]at q;cases q;rw[y]at j;cases j;rw[A]at M;cases M
 have B:=nt.keep C o (Ne.symm aC) nv cf j;let⟨G,e1,_,⟨T,oT,ts,N,t2,y,A,t5,t6⟩,hT4⟩:=nt.exc;have TC:T≠C:=λq=>by rw[q,B]at y;cases y;rw[M]at A;cases A
 have J:∃m,h'.Ns C m/\∀d,Heap.SameBut C h' d->∀h:Env,h.locals=C->wpAny (model X.prog X.w) X.A (PySem.passOn "comprehension.variables-let-go" (.ref a) h:Sem Ξ) (λ_ _=>False) X.xe {s' with heap:=d}:=by
  refine⟨m,⟨o,es,ep,B,M,k⟩,λd sb h _=>?_⟩;have I3:=Inv.turned (s:={s' with heap:=h'}) (h':=d) I1 (t':=s'.toks) (it:=C) (λb o hb e=>(sb.2 b hb).trans e) u hL (.inr (le_trans n.sz (le_of_lt r))) (λx c e=>by let⟨v,o,j,_⟩:=n.cell x c e;exact ne_of_lt (lt_trans (Β j) r)) λq hq=>ne_of_lt (lt_trans (Β (n.pin q hq).1) r);have e3:d.get? a=Φ _:=(sb.2 a aC).trans e1;have f3:Fly Y.s₀.heap.objs.size H' d a:=⟨⟨K,dx,G,sl,h1,e3,.inr ⟨T,oT,ts,N,t2,(sb.2 T TC).trans y,A,t5,t6⟩,λT' q=>by
   let⟨K',dx',vs2,sl2,g1,g2,_,g4⟩:=f1.ex;rw[e1]at g2;have:vs2=G:=by simpa using(congrArg (λo=>o.map (·.data)) g2).symm
   exact g4 T' (by rw[this];exact q)⟩,L.lo⟩
  refine Θ (ϣ e3 rfl N ?_);refine Θ (zc1 I3 stk O f3 l i λs3 I4 f4=>wpAny_throw ?_);let⟨_,_,_,_,_,g,_⟩:=id f4.ex;exact out a H' s3 _ pins z I4 f4 l (le_of_lt (Nat.lt_of_le_of_lt f4.lo (Β g))) i
 cases use<;>exact J
end
section
variable{X:Cx}{sc scope:Scope}{tgs:List Str}{js:List Nat}{elt tg iter:Expr}{ifs:List Expr}{pos:Pos}{wi:TI}{g:TG}{tt:TT}{te:(Addr->Hp->Prop)->TE}
def zjM(tgs)(js)(B:X.calm=Γ)(ok:CompOk X.env.scope scope X.N js)(stk:X.stack=X.env::X.outer)(E:X.env.frame=Φ X.env.locals)(G:PI X tg iter wi)(L:∀cl C a s H pn,PG (zaG X (capN X.N tgs js) scope cl C a s H pn) tg g)(M:∀cl C a s H pn,PTs (zaG X (capN X.N tgs js) scope cl C a s H pn) ifs tt)(N:∀Z cl C a s H pn,PE (cxX (XEz Z) X (capN X.N tgs js) scope cl C a s H pn) elt (te Z))(hs:∀x,foldedSetIterable iter X.env x=pure x):
  PE X (.ListComp elt [⟨tg,iter,ifs,0⟩] scope pos) (λj H Q=>∃Z,XOut X j Z/\zgn tgs.length js wi g tt (te Z) j H Q):=by
 intro i s j H Q I k;let⟨Z,n,h⟩:=k;have frees:∀y∈scope.names,y.2=.free->∃c,X.env.cells.lookup y.1=Φ c:=λy O U=>I.ok.has y.1 (ok.frees y O U);refine wpAny_comprehension_free rfl hs (zaO frees) ok.kind ok.locs (thn (G i s j H _ I h) λv s1 h1=>thn h1 λitv s2 h2=>?_);let⟨it,a,tn,J,H2,e,d,T,r,f2,rd⟩:=h2;subst e;refine zcf (XEz Z) B rfl ok (λcl C a s H pn=>zri (λ_ _ z=>z) (L cl C a s H pn)) (λcl C a s H pn=>zmZ (λ_ _ z=>z) (M cl C a s H pn)) (N Z) d T r f2 rd (λp C H' A I' t f hn q=>?_) λY p C yf l conv f u e A z=>zhY n d stk E yf l conv f u z
 let⟨m,t⟩:=t;refine⟨m,t,λh' w=>⟨.ref p,H',?_,rfl,q⟩⟩;exact I'.turned (λb o hb e=>(w.2 b hb).trans e) hn (ne_of_gt (lt_trans d.lt f)) (.inr (le_trans d.sz (le_of_lt f))) (λx c e=>by let⟨v,o,ho,_⟩:=d.cell x c e;exact ne_of_lt (lt_trans (Β ho) f)) λq hq=>ne_of_lt (lt_trans (Β (d.pin q hq).1) f)
def zlH(tgs)(js)(hN:X.N.Nodup)(w:X.N[i]?=Φ y)(A:Loc X.env.scope y)(hc:X.calm=Γ)(ok:CompOk X.env.scope scope X.N js)(stk:X.stack=X.env::X.outer)(fr:X.env.frame=Φ X.env.locals)(hi:PI X tg iter wi)(hg:∀cl C d s H pn,PG (zaG X (capN X.N tgs js) scope cl C d s H pn) tg g)(ht:∀cl C d s H pn,PTs (zaG X (capN X.N tgs js) scope cl C d s H pn) ifs tt)(he:∀Z cl C d s H pn,PE (cxX (XEz Z) X (capN X.N tgs js) scope cl C d s H pn) elt (te Z))(B:swapsWith (.ListComp elt [⟨tg,iter,ifs,0⟩] scope pos) (Φ (.Name y py)) spos.line X.env=pure Γ)(hs:∀x,foldedSetIterable iter X.env x=pure x)(hf:X.fn y=Γ\/X.env.scope.names.lookup y=Φ .local):
  PS X (.Assign [.Name y py] (.ListComp elt [⟨tg,iter,ifs,0⟩] scope pos) spos) (tAsg (λj H Q=>∃Z,XOut X j Z/\zgn tgs.length js wi g tt (te Z) j H Q) (zfV i)):=by
 intro f s j H D I k;let⟨Z,E,h⟩:=k;have frees:∀y∈scope.names,y.2=.free->∃c,X.env.cells.lookup y.1=Φ c:=λy A hk=>I.ok.has y.1 (ok.frees y A hk);rw[exec_Assign_Name_used _ _ _ _ B];refine Θ (wpAny_standAt (Θ ?_));refine Θ (Τ (wpAny_comprehension_free rfl hs (zaO frees) ok.kind ok.locs
  (thn (hi f s j H _ I h) λv s1 h1=>thn h1 λitv s2 h2=>?_)) (λ_ u G=>Ω (Ω G)) λ_ _ e=>e)
 let⟨it,d,tn,J,H2,e,n,T,L,f2,rd⟩:=h2;subst e;refine zcf (XEz Z) hc rfl ok (λcl C d s H pn=>zri (λ_ _ z=>z) (hg cl C d s H pn)) (λcl C d s H pn=>zmZ (λ_ _ z=>z) (ht cl C d s H pn)) (he Z) n T L f2 rd (Q:=λx H1=>zfV i x j H1 D.nx) (λp C H' u I' M r hn q=>?_) λY p C yf l conv r N e u z=>zhY E n stk fr yf l conv r N z
 let⟨m,M⟩:=M;have hL:=ne_of_gt (lt_trans n.lt r);have t:∀x c,X.env.cells.lookup x=Φ c->c≠C:=λx c e=>by let⟨v,o,ho,_⟩:=n.cell x c e;exact ne_of_lt (lt_trans (Β ho) r)
 refine wpAny_assign_Name (zdn I' hN w A (v:=.ref p) rfl (λO U hch=>?_) hf);let⟨a,hsb,ha⟩:=hch;have hCa:C≠a:=by rcases ha with z|z;rw[z];exact hL;exact λe=>t y a z e.symm
 exact⟨m,M.sameBut hsb hCa,λh' hs'=>⟨j.set i (Φ (.ref p)),H',(U.turned (t':=O.toks) (it:=C) (λb o hb e=>(hs'.2 b hb).trans e) hn hL (.inr (le_trans n.sz (le_of_lt r))) t λq G=>ne_of_lt (lt_trans (Β (n.pin q G).1) r)),q⟩⟩
abbrev zfm(sp:Sp)(t:TA)(Z:Addr->Hp->Prop):TE:=λc H Q=>t c H λd e=>∃E,sp d e Q E/\∀a b,E (.ref a) Ψ b->Z a b
def zlZ(F:FnOk Y.prog Y.w Y.K Y.mg Y.base (CXe Y.prog Y.w) k l q r sp)(u:Room k Y.A)(v:Gl Y x)(w:Y.mg x=Φ (.ref l))(hk:keepIn Y.K (.ref l)=Γ)(A:Binds Y.K q r [])(b:∀{d:L2.St}{H:Hp}{m n:List V->Hp->Prop},(∀vs H,m vs H->n vs H)->t d H m->t d H n)(f:∀e s,Y.xe e s->False)(B:PA Y (e::es) t)(i:(x==("__debug__":Str))=Δ)(C:starEach (e::es) Y.env=(Δ,eval e Y.env)::starEach es Y.env)(j:(backTo pos (starEach es Y.env)).any (·.1)=Δ):PE (xeC Y (XEz Z Y)) (.Call (.Name x p) (e::es) [] pos) (zfm sp t Z):=by
 refine PE.imp (zde F u v w hk A (ztB f B) i C j) λd H Q h=>?_;exact b (λvs M y=>(by let⟨E,G,z⟩:=y;exact ⟨E,G,λc N a o O I J L e=>⟨a,d,o,c,rfl,zcx J,L.mono (zcx I).sz,z a o e⟩⟩)) h
end
section
variable{T:Tab}{cf:CF}{k:Nat}{N:List Str}{sc:Scope}{X:Cx}{pos p:Pos}
def zkY(o:CFok cf)(hs:RS X.K ι H δ I)(J:RH X.K ι H S)(e:evEs cf s δ S=.ok ds S1)(h:match appX cf f ds S1 with|.ok d n=>∀v b H',Ext ι H b H'->RV X.K b H' d v->RH X.K b H' n->L v H'|.err d n=>∀a b H',Ext ι H b H'->RV X.K b H' d (.ref a)->RH X.K b H' n->Z a H'|.bad=>False):zfm (spX X.K cf f) (tAs X.K cf s) Z I H L:=by
 refine tAs.run hs J (Q:=λg t=>g=ds/\t=S1) (by rw[e];exact⟨rfl,rfl⟩) λg vs j M i C O l E k=>?_;let⟨u,w⟩:=k;subst u w;unfold appX at h;cases m:cf f g i.enter with
 |ok d y=>
  rw[m]at h;dsimp only at h;refine⟨λ_ _ _=>False,⟨j,i.enter,g,E,l.enter,?_⟩,λ_ _ z=>z.elim⟩;rw[m];intro v H' b x r q;cases c:zbm i d y with
  |ok G n=>rw[c]at h;let⟨d2,A,S3,U,Y,B,u,w⟩:=zdf (Q:=λa t=>a=G/\t=n) l x r q ((o _ _ _).1 _ _ m).frz (by rw[c];exact⟨rfl,rfl⟩);subst u w;exact h v A H' (C.trans U) Y B| err G n=>
   exfalso;unfold zbm at c;split at c;cases c;split at c
   . split at c
     all_goals first|(split at c<;>cases c)|cases c
   cases c
  |bad=>rw[c]at h;exact h.elim
 |err d y=>rw[m]at h;refine⟨λv _ H'=>∃a b,v=.ref a/\Ext j M b H'/\RV X.K b H' d (.ref a)/\RH X.K b H' y,⟨j,i.enter,g,E,l.enter,?_⟩,?_⟩;rw[m];exact λa H' b x r q=>⟨a,b,rfl,x,r,q⟩;rintro a H' ⟨a',b,z,x,r,q⟩;cases z;exact h a b H' (C.trans x) r (q.keep ((o _ _ _).2 _ _ m).frz)|bad=>rw[m]at h;exact h.elim
abbrev zuj(e:Out (List D))(b:List D):Out (List D)->Prop
 |.ok a c=>e=.ok (b++a) c|.err d c=>e=.err d c|.bad=>False
abbrev ZC(K:PySem.W.Frag)(ι:List Addr)(H:Hp)(lk:List Nat)(e:Out (List D))(a:Addr)(H':Hp):Prop:=∃b d c,e=.err d c/\Ext ι H b H'/\RV K b H' d (.ref a)/\RH K b H' {c with lk:=lk}
abbrev zsP(K:PySem.W.Frag)(cf:CF)(g:List Nat)(f:Nat)(es:CEs)(m:Out (List D))(ds:List D)(c:List Nat)(h:List Addr)(n:Hp)(S1:R.St)(p:Addr)(i:Nat)(j:L2.St)(H':Hp):Prop:=i<=ds.length/\∃d a e b l,b.length<=i/\RS K a H' d j/\Ltr K h n S1 c a H' e/\e.lk=c++S1.lk/\S1.len<=e.len/\p∉a/\H' p=Φ (.lst l)/\RVs K a H' b l/\zuj m b (zbp cf g f es (ds.drop i) d e)
def zf5(C:CFok cf)(hs:RS X.K ι H δ σ)(hh:RH X.K ι H S)(e:evL cf it δ S=.ok r S1)(hr:r.1.length<=16777216)(eR:q=zbp cf is f g r.1 (R.csl nt js δ) {S1 with lk:=r.2++S1.lk})(h:match (generalizing:=false) q with|.ok ds S3=>∀p vs c H',Ext ι H c H'->RVs X.K c H' ds vs->p∉c->H' p=Φ (.lst vs)->RH X.K c H' {S3 with lk:=S1.lk}->H p=Ψ->Qv (.ref p) H'|.err _ _=>True|.bad=>False):
  zgn nt js (tI X.K cf it) (tG X.K is) tYes (zfm (spX X.K cf f) (tAs X.K cf g) (ZC X.K ι H S1.lk q)) σ H Qv:=by
 refine⟨δ,ι,S,λr' w=>r'=r/\w=S1,hs,hh,by rw[e];exact⟨rfl,rfl⟩,λJ H1 k=>?_⟩;let⟨ds,s,E,j,x1,G,w1,wk⟩:=k;let⟨rfl,rfl⟩:=w1;dsimp only at hr eR;intro p Q;have hpi:=G.fresh Q;refine⟨λi m Y H'=>m=ds.length-i/\zsP X.K cf is f g q ds s E H1 j p i Y H',⟨_,rfl,zero_le _,R.csl nt js δ,E,{j with lk:=s++j.lk},[],[],le_refl _,((hs.ext x1).csl _ _).up (ϛ _) (Kp.new Q _),⟨Ext.new Q _,(G.lk _).new Q _,λl _=>rfl⟩,rfl,le_refl _,hpi,zag,rfl,?_⟩,?_⟩;rw[List.drop_zero,<-eR];cases q with|ok ds' S3=>rfl|err d S3=>rfl|bad=>exact h
 rintro i m Y H' ⟨rfl,hle,δ',c,w,t,vs,hal,hs',y,hlk,hln,u,hpv,ra,b⟩;rcases Nat.lt_or_eq_of_le hle with I|rfl;refine .inr ⟨wk.go i c H' w y I,zsP X.K cf is f g q ds s E H1 j p (i+1),λσ2 H2 h=>⟨_,by omega,rfl,h⟩,λx H2 hy=>?_⟩;let⟨x2,hh2,d,hd,rd⟩:=wk.yld i c H' w x H2 y I hy;have hs2:=hs'.ext x2;have hp2:=x2.keep u hpv (by simp);rw[zdP hd]at b;simp![zbp]at b;cases ea:asgG is d δ' with
 |none=>rw[ea]at b;exact b.elim| some n=>
  rw[ea]at b;dsimp only at b;refine⟨δ',c,d,n,hs2,rd,ea,λσ2 hs3=>?_⟩;unfold tYes;dsimp only;cases e4:evEs cf g n w with
  |ok es S4=>
   rw[e4]at b;dsimp only at b;have f4:=frEs C g n w _ _ e4;refine zkY C hs3 hh2 e4 ?_;cases e5:appX cf f es S4 with
   |ok z U=>rw[e5]at b;dsimp only at b⊢;intro v L H4 M rz O;have f5:=f4.trans ((fxA C).1 _ _ e5);have o:=M.keep u hp2 (by simp);have A:=(M.rest p _ u hp2).2;have ra4:=(ra.ext x2).ext M;have k3:∀l∈s,U.get l=j.get l:=λl hl=>(f5.same l (by rw[hlk];exact mem_append_left _ hl) (lt_of_lt_of_le (wk.lks l hl) hln)).trans (y.lck l hl);refine⟨vs,o,by rw[ra4.length,Χ];omega,I,n,L,U,t++[z],vs++[v],by simp;omega,(hs3.ext M).up (ϛ _) (Kp.tmp o),⟨((y.ext.trans x2).trans M).tmp Q o,O.tmp A o,k3⟩,f5.lk.trans hlk,le_trans hln f5.lens,A,zag,?_,?_⟩;exact(RVs.append (es:=[z]) ra4 ⟨v,[],rfl,rz,rfl⟩).up (ϛ _) (Kp.tmp o);cases e6:zbp cf is f g (ds.drop (i+1)) n U with| ok B S6=>rw[e6]at b;show q=.ok (t++[z]++B) S6;rw[b,append_assoc];rfl|err d' S6=>rw[e6]at b;exact b|bad=>rw[e6]at b;exact b.elim
   |err z U=>rw[e5]at b;exact λa L H4 M rz O=>⟨L,z,U,b,((x1.trans y.ext).trans x2).trans M,rz,O.lk _⟩|bad=>rw[e5]at b;exact b.elim
  |err es S4=>rw[e4]at b;exact b.elim|bad=>rw[e4]at b;exact b.elim
 refine .inl ⟨wk.stop _ c H' w y (le_refl _),?_⟩;rw[List.drop_length]at b;have b:q=.ok (t++[]) w:=b;rw[Ϟ]at b;rw[b]at h;exact h p vs c H' (x1.trans y.ext) ra u hpv (y.rh.lk _) (zgi G x1 Q)
def zob(G:Gd T cf k N sc X)(stk:X.stack=X.env::X.outer)(fr:X.env.frame=Φ X.env.locals)(hi:N[i]?=Φ y)(hl:zb5 sc y=Γ)(hf:T.xfns.contains f=Γ)(hn:T.fns[f]?=Φ (x,ps,nd))(hd:(x==("__debug__":Str))=Δ)(ok:CompOk X.env.scope scope X.N m)(hpi:PI X tg g (tI X.K cf it))(hfo:∀x,foldedSetIterable g X.env x=pure x)(hgl:∀cl C n s H pn,Gl (zaG X (capN X.N tgs m) scope cl C n s H pn) x)(hg:∀cl C n s H pn,PG (zaG X (capN X.N tgs m) scope cl C n s H pn) tg (tG X.K is))(ha:∀cl C n s H pn,PA (zaG X (capN X.N tgs m) scope cl C n s H pn) (e::es) (tAs X.K cf t))(I:(e::es).all zai=Γ):
  PS X (.Assign [.Name y p1] (.ListComp (.Call (.Name x p) (e::es) [] cp) [⟨tg,g,[],0⟩] scope p2) pos) (tB X cf (.comp i tgs.length m is it f t)):=by
 let⟨fa,fd,F,hm,hk,hb⟩:=G.tab.xtb.fn f x ps nd hf hn;rw[Ϥ,Ε]at I;have he:∀Z cl C n s H pn,PE (cxX (XEz Z) X (capN X.N tgs m) scope cl C n s H pn) (.Call (.Name x p) (e::es) [] cp) (zfm (spX X.K cf f) (tAs X.K cf t) Z):=λZ cl C n s H pn=>zlZ F G.room (hgl cl C n s H pn) hm hk hb (λh k'=>(by let⟨δ,ι,S,Q,hs,hh,w,q⟩:=k';exact ⟨δ,ι,S,Q,hs,hh,w,λvs J z=>h vs J (q vs J z)⟩)) (λ_ _ z=>z) (ha cl C n s H pn) hd (zah I.1 es _) (zaA I.2);have hps:PS X (.Assign [.Name y p1] (.ListComp (.Call (.Name x p) (e::es) [] cp) [⟨tg,g,[],0⟩] scope p2) pos) (tAsg (λσ H Q=>∃Z,XOut X σ Z/\zgn tgs.length m (tI X.K cf it) (tG X.K is) tYes (zfm (spX X.K cf f) (tAs X.K cf t) Z) σ H Q) (zfV i)):=by have hw:∃b,swapsWith (.ListComp (.Call (.Name x p) (e::es) [] cp) [⟨tg,g,[],0⟩] scope p2) (Φ (.Name y p1)) pos.line X.env=pure b:=⟨_,rfl⟩;let⟨b,hw⟩:=hw;cases b with|false=>exact zel (by rw[G.nm];exact G.nd) (by rw[G.nm];exact hi) (G.lc hl).1 (zjM tgs m G.calm ok stk fr hpi hg (λ_ _ _ _ _ _=>zgA) he hfo) hw (G.lc hl).2|true=>exact zlH tgs m (by rw[G.nm];exact G.nd) (by rw[G.nm];exact hi) (G.lc hl).1 G.calm ok stk fr hpi hg (λ_ _ _ _ _ _=>zgA) he hw hfo (G.lc hl).2
 refine PS.imp hps λD σ H j=>?_;let⟨δ,ι,S,hs,hh,h⟩:=j;simp![exT]at h;cases e1:evL cf it δ S with
 |ok r L=>
  rw[e1]at h;dsimp only at h;split at h;rename_i c;split at c;rename_i A;cases B:zbp cf is f t r.1 (R.csl tgs.length m δ) {L with lk:=r.2++L.lk} with
  |ok ds U=>rw[B]at c;cases c;refine⟨ZC X.K ι H L.lk (.ok ds U),(λa J s' lo E z'=>(by let⟨_,_,_,z,_⟩:=z';cases z)),zf5 G.tab.frm hs hh e1 A B.symm ?_⟩;intro p vs M J O rv hpn hpv hT hp0;refine h (M++[p]) J _ ⟨O.pre.trans (ύ _ _),O.kp,λb o hb eb=>⟨(O.rest b o hb eb).1,λz=>?_⟩⟩ (((hs.ext O).up (ύ _ _) (Kp.refl _)).set (d:=.ref U.len) ⟨p,hT.last p,rfl⟩ i) (hT.one (l:=0) hpn ⟨vs,hpv,rv.up (ύ _ _) (Kp.refl _)⟩);rcases mem_append.mp z with z|z;exact(O.rest b o hb eb).2 z;simp at z;subst z;rw[hp0]at eb;exact nS eb
  |err d U=>rw[B]at c;cases c
  |bad=>rw[B]at c;cases c
  cases c;rename_i c;split at c;rename_i A;cases B:zbp cf is f t r.1 (R.csl tgs.length m δ) {L with lk:=r.2++L.lk} with
  |ok ds U=>rw[B]at c;cases c
  |err d0 U=>rw[B]at c;let⟨rfl,rfl⟩:=Out.err.inj c;refine⟨ZC X.K ι H L.lk (.err d0 U),λa J s' lo E u I' fl l1 l2 l3=>?_,zf5 G.tab.frm hs hh e1 A B.symm trivial⟩;let⟨M,d',S3',z,O,rv,hT⟩:=u;cases z;exact h a M J s' lo E O rv hT I' fl l1 l2 l3|bad=>rw[B]at c;cases c
  cases c;exact h.elim
 |err d L=>rw[e1]at h;exact h.elim|bad=>rw[e1]at h;exact h.elim
end
section
variable{T:Tab}{cf:CF}{k:Nat}{N:List Str}{sc:Scope}{X:Cx}{pos p:Pos}{rest:List Stmt}
abbrev zql(X:Cx)(k:Nat)(m:Str)(q:TE)(t:TA):TE:=λc H Q=>q c H λx f=>∃(a C r:Addr) (g:List (Str×V)) (h:Addr) (i:FuncData) (j:List Str) (l:Sp),x=.ref a/\f a=Φ (.ins C r g)/\Cls X.K C/\Meth X.K C m h/\
 FnOk X.prog X.w X.K X.mg X.base (CXe X.prog X.w) k h i j l/\Binds X.K i j []/\g.lookup m=Ψ/\t c f λs n=>∃E,l (x::s) n Q E/\∀b o a d e,Inv X b c n o->Inv X b c d e->Fly o.heap.objs.size d e.heap a->E (.ref a) Ψ d->X.xe (.ref a) e
def zlQ(he:PE X o ta)(hr:Room k X.A)(ha:PA X (e::es) t)(f:attributeBase o m X.env (eval o X.env)=eval o X.env)(j:((backTo pos (starEach (e::es) X.env)).all (λx=>!x.1)&&(backToKw pos (keywordEach [] X.env)).all (λx=>x.1.isSome)
   && decide ((e::es).length+([]:List Keyword).length+(if([]:List Keyword).isEmpty then 0 else 1)<30))=Γ)(g:(n.endLine==pos.line)=Γ)(G:starEach (e::es) X.env=(Δ,eval e X.env)::starEach es X.env)(J:(backTo pos (starEach es X.env)).any (·.1)=Δ):
  PE X (.Call (.Attribute o m n) (e::es) [] pos) (zql X k m ta t):=by
 intro d s U H Q I h;refine zcv f j g (thn (he d s U H _ I h) λu s1 y pl=>?_);let⟨x,H1,Y,rx,a,C,dx,fs,fa,fd,ps,sp,ex,ea,c,hm,F,hb,l,q⟩:=y;subst ex;obtain rfl:u=Ξ.ref a:=rx;refine zcN Y ea c hm l ?_;refine callWith_K I.ok.mod.kin hm.kp (thn (ha pos d s1 U H1 _ Y q) λv L ⟨vs,H2,i,r,E,q2,qx⟩=>⟨i.kIn,?_⟩) G J;have r2:Vals (V.ref a::vs) (Ξ.ref a::v):=.cons rfl r;have hl:(Ξ.ref a::v++[]).length=ps.length:=by rw[Ϟ,<-r2.length];exact F.len _ _ _ _ q2
 have w:=hb L (.ref a::v) i.kIn hl;rw[Ϟ]at w;refine ϟ (ϕ (F.run X.A X.stack L H2 ⟨.ref a::v,[]⟩ (.ref a::v) (.ref a::vs) Q E hr i.env0 w r2 q2) λr s' A=>?_);cases r with| error x=>let⟨a',H',rfl,os,B,un,M,O,hE⟩:=A;exact qx d L a' H' s' i (i.call' os un M B (λb z=>absurd z (by simp))) O hE| ok O=>cases O with|ret u=>exact i.after A|next=>exact False.elim A|brk=>exact False.elim A|cont=>exact False.elim A
abbrev tX(X:Cx)(cf:CF)(x:XE):TE:=λf H h=>∃g b S,RS X.K b H g f/\RH X.K b H S/\(match exX cf x g S with|.ok d e=>∀v a c,Ext b H a c->RV X.K a c d v->RH X.K a c e->h v c|.err d e=>XErr X f b H d e|.bad=>False)
def zjS{o:Out a}{d}(e:o=.ok d S)(f:a->R.St->Out b):o.ne.bind f=f d S:=by rw[e];rfl
def zjT{o:Out a}(h:∀d S,o≠.ok d S)(f:a->R.St->Out b):o.ne.bind f=.bad:=by cases o with|ok d S=>exact absurd rfl (h d S)|err d S=>rfl|bad=>rfl
def zit(o:Out a):(∃d S,o=.ok d S)\/∀d S,o≠.ok d S:=by
 cases o with
 |ok d S=>exact .inl ⟨d,S,rfl⟩|err d S=>exact .inr λ_ _ e=>by cases e
 |bad=>exact .inr λ_ _ e=>by cases e
def zq7(h:PE X e (tE X.K cf b)):PE X e (tX X cf (.val b)):=by refine PE.imp h λA H B z=>?_;let⟨c,l,S,m,s,q⟩:=z;simp![exX]at q;rcases zit (evE cf b c S) with⟨d,a,g⟩|n;rw[g]at q;exact⟨c,l,S,λi j=>i=d/\j=a,m,s,by rw[g];exact⟨rfl,rfl⟩,λv t z=>by let⟨i,f,j,x,r,u,w,y⟩:=z;subst w y;exact q v f t x r u⟩;cases o:evE cf b c S with|ok d a=>exact absurd o (n d a)|err d a=>rw[o]at q;exact q.elim|bad=>rw[o]at q;exact q.elim
def zor(G:Gd T cf k N sc X)(hf:T.xfns.contains f=Γ)(d:T.fns[f]?=Φ (x,g,nd))(i:isGl sc x=Γ)(hd:(x==("__debug__":Str))=Δ)(j:PA X (e::es) (tAs X.K cf b))(a:(e::es).all zai=Γ):
  PE X (.Call (.Name x p) (e::es) [] pos) (tX X cf (.call f b)):=by
 let⟨t,u,F,l,m,o⟩:=G.tab.xtb.fn f x g nd hf d;rw[Ϥ,Ε]at a;refine PE.imp (zde F G.room (G.gl i) l m o j hd (zah a.1 es X.env) (zaA a.2)) λv H w z=>?_;let⟨q,y,S,r,s,h⟩:=z;simp![exX]at h;rcases zit (evEs cf b q S) with⟨A,B,c⟩|n;rw[zjS c]at h;exact zdR G.tab.frm r s c h;rw[zjT n]at h;exact h.elim
def zht{P:Out D->Prop}(b:¬P .bad)(h:P (mthX m d x S g)):∃l c a f,x=.ref l/\S.get l=Φ (.ins c a)/\d.lookup c=Φ f/\a.lookup m=Ψ/\P (g f):=by unfold mthX at h;split at h;rename_i e i;let⟨c,a⟩:=e;let⟨l,rfl,j⟩:=zdL i;split at h;rename_i f n;split at h;rename_i o;exact⟨l,c,a,f,rfl,j,n,by simpa using o,h⟩;exact absurd h b;exact absurd h b;exact absurd h b
def zoq(G:Gd T cf k N sc X)(hm:mtB T m tb=Γ)(ho:PE X o (tE X.K cf co))(ha:PA X (e::es) (tAs X.K cf B))(s:(e::es).all zai=Γ)(E:zaN o=Γ)(hl:(I.endLine==pos.line)=Γ)(hn:(e::es).length<29):
  PE X (.Call (.Attribute o m I) (e::es) [] pos) (tX X cf (.meth m tb co B)):=by
 have hs:=s;rw[Ϥ,Ε]at s;refine PE.imp (zlQ ho G.room ha (zbE E m X.env _) (zkF hs hn) hl (zah s.1 es X.env) (zaA s.2)) λσ H Qv y=>?_;let⟨δ,ι,S,hs,hh,h⟩:=y;simp![exX]at h;rcases zit (evE cf co δ S) with⟨x,J,e1⟩|n;rw[zjS e1]at h;refine tE.run hs hh (Q:=λd S'=>d=x/\S'=J) (by rw[e1];exact⟨rfl,rfl⟩) λd v ι1 H1 S1' x1 hs1 L r1 u=>?_;let⟨z1,z2⟩:=u;subst z1 z2;let⟨l,c,fs,f,rfl,hl,ef,M,h⟩:=zht (P:=λo=>match o with|.ok d J=>∀v i q,Ext ι H i q->RV X.K i q d v->RH X.K i q J->Qv v q|.err d J=>XErr X σ ι H d J|.bad=>False) (λz=>z) h;have O:=r1;let⟨b,i1,rfl⟩:=r1;let⟨b',i2,C,dx,ws,hC,hb,rf⟩:=L.obj l _ hl;rw[i1]at i2;cases i2;have hmt:=all_eq_true.mp hm (c,f) (zcK ef);let⟨C',fa,fd,ps,U,cl,me,F,bi⟩:=(G.tab.mtx c m f hmt).ex;rw[hC]at U;cases U;have hlk:ws.lookup m=Ψ:=by rcases rf.look m with⟨_,e2⟩|⟨d',v',e1,_,_⟩;exact e2;rw[e1]at M;cases M
 refine⟨b,C,dx,ws,fa,fd,ps,_,rfl,hb,cl,me,F,bi,hlk,?_⟩;rcases zit (evEs cf B δ S1') with⟨ds,S2,e2⟩|n;rw[zjS e2]at h;refine tAs.run hs1 L (Q:=λd S'=>d=ds/\S'=S2) (by rw[e2];exact⟨rfl,rfl⟩) λt vs w H2 A x2 hs2 Y r2 j=>?_;let⟨z1,z2⟩:=j;subst z1 z2;unfold appW at h;cases e3:cf f (.ref l::t) A with| ok d T'=>rw[e3]at h;refine⟨λ_ _ _=>False,⟨w,A,.ref l::t,⟨.ref b,vs,rfl,O.ext x2,r2⟩,Y,?_⟩,λ_ _ _ _ _ _ _ _ z=>z.elim⟩;rw[e3];exact λv q i x r hT=>h v i q ((x1.trans x2).trans x) r hT| err d T'=>rw[e3]at h;refine⟨λv _ q=>∃a i,v=.ref a/\Ext w H2 i q/\RV X.K i q d (.ref a)/\RH X.K i q T',⟨w,A,.ref l::t,⟨.ref b,vs,rfl,O.ext x2,r2⟩,Y,?_⟩,?_⟩;rw[e3];exact λa q i x r hT=>⟨a,i,rfl,x,r,hT⟩;rintro pins s1 a q s' I1 I' fl ⟨a',i,z,x,r,hT⟩;cases z;let⟨_,_,_,_,_,g,_⟩:=id fl.ex;exact h a i q s' s1.heap.objs.size pins ((x1.trans x2).trans x) r hT I' fl I1.sz (le_of_lt (Nat.lt_of_le_of_lt fl.lo (Β g))) λp hp=>Β (I1.pin p hp).1|bad=>rw[e3]at h;exact h.elim
 rw[zjT n]at h;exact h.elim;rw[zjT n]at h;exact h.elim
def ztt(G:Gd T cf k N sc X)(Q:mtB T m U=Γ)(Y:PE X o (tX X cf x))(i:zaN o=Γ)(u:(j.endLine==pos.line)=Γ):
  PE X (.Call (.Attribute o m j) [] [] pos) (tX X cf (.on x m U)):=by
 refine PE.imp (zfE Y G.room (zbE i m X.env _) u) λσ H Qv ⟨J,w,S,hs,hh,h⟩=>⟨J,w,S,hs,hh,?_⟩;simp![exX]at h;cases n:exX cf x J S with
 |bad=>rw[n]at h;exact h|err d e=>rw[n]at h;exact h| ok d e=>
  rw[n]at h;intro v y H1 x1 L q;let⟨l,c,fs,f,rfl,u,ef,s,h⟩:=zht (P:=λo=>match o with|.ok d e=>∀v a g,Ext w H a g->RV X.K a g d v->RH X.K a g e->Qv v g|.err d e=>XErr X σ w H d e|.bad=>False) (λz=>z) h;have A:=L;let⟨b,i1,rfl⟩:=L;let⟨b',M,C,dx,O,hC,hb,rf⟩:=q.obj l _ u;rw[i1]at M;cases M;have B:=all_eq_true.mp Q (c,f) (zcK ef);let⟨C',fa,fd,ps,t,cl,me,F,bi⟩:=(G.tab.mth c m f B).ex;rw[hC]at t;cases t;have E:O.lookup m=Ψ:=by rcases rf.look m with⟨_,e2⟩|⟨d',v',n,_,_⟩;exact e2;rw[n]at s;cases s
  refine⟨b,C,dx,O,fa,fd,ps,_,rfl,hb,cl,me,F,bi,E,y,e,[.ref l],⟨.ref b,[],rfl,A,rfl⟩,q,?_⟩;unfold appW at h;cases I:cf f [.ref l] e with|ok d T'=>rw[I]at h;exact λv g a x r hT=>h v a g (x1.trans x) r hT|err d T'=>rw[I]at h;exact h.elim|bad=>rw[I]at h;exact h.elim
def ztu(E:PE X a (tE X.K cf t))(G:PE X i (tX X cf b))(I:zcu i=Γ):PE X (.Subscript a i pos) (tX X cf (.ix t b)):=by
 refine PE.imp (zrq zm8 E G (zr6 I)) λσ H Qv k=>?_;let⟨f,ι,S,J,L,h⟩:=k;simp![exX]at h;rcases zit (evE cf t f S) with⟨x,w,A⟩|n;rw[zjS A]at h;refine tE.run J L (Q:=λd M=>d=x/\M=w) (by rw[A];exact⟨rfl,rfl⟩) λd v g H1 c B l m O p=>?_;let⟨U,Y⟩:=p;subst U Y;refine⟨f,g,c,l,m,?_⟩;cases o:exX cf b f c with
 |bad=>rw[o]at h;exact h|err d w=>rw[o]at h;exact XErr.up h B| ok y S2=>
  rw[o,zaj]at h;intro u q H2 C r2 e;unfold ixX at h;cases r:zbe S2 d with
  |none=>rw[r]at h;exact h.elim| some ds=>
   rw[r]at h;cases y with
   |int j=>dsimp only at h;cases s:atI ds j with|none=>rw[s]at h;exact h.elim| some z=>rw[s]at h;obtain rfl:u=.int j:=r2;let⟨u,h1,h2⟩:=zr5 e (O.ext C) r s;exact zjA h1 (h u q H2 (B.trans C) h2 e)
   |_=>exact h.elim
 rw[zjT n]at h;exact h.elim
def zq8(I:PT X c (tT X.K cf t))(J:PE X a (tX X cf u))(L:PE X b (tX X cf w)):PE X (.IfExp c a b pos) (tX X cf (.ite t u w)):=by
 refine PE.imp (zhn I J L) λx H A k=>?_;let⟨l,B,S,M,O,h⟩:=k;simp![exX]at h;rcases zit (evT cf t l S) with⟨z,i,C⟩|n;rw[zjS C]at h;refine tT.run M O (Q:=λm U=>m=z/\U=i) (by rw[C];exact⟨rfl,rfl⟩) λm o Y f E q r j=>?_;let⟨w1,w2⟩:=j;subst w1 w2;have G:∀y:XE,(match exX cf y l f with|.ok d i=>∀v e g,Ext B H e g->RV X.K e g d v->RH X.K e g i->A v g|.err d i=>XErr X x B H d i|.bad=>False)->tX X cf y x Y A:=λy h=>by refine⟨l,o,f,q,r,?_⟩;cases s:exX cf y l f with|bad=>rw[s]at h;exact h|err d S2=>rw[s]at h;exact XErr.up h E|ok d S2=>rw[s]at h;exact λv e g x'=>h v e g (E.trans x')
 cases m with|true=>exact G u h|false=>exact G w h
 rw[zjT n]at h;exact h.elim
def zoc(G:Gd T cf k N sc X)(l:N[i]?=Φ y)(c:zb5 sc y=Γ)(m:PE X e (tX X cf x))(n:za8 e=Γ):PS X (.Assign [.Name y w] e pos) (tB X cf (.asgX i x)):=by refine PS.imp (zel (by rw[G.nm];exact G.nd) (by rw[G.nm];exact l) (G.lc c).1 m (zbH n _ _ _) (G.lc c).2) λD z H ⟨f,o,S,g,q,h⟩=>⟨f,o,S,g,q,?_⟩;simp![exT]at h;cases a:exX cf x f S with|bad=>rw[a]at h;exact h|err d s=>rw[a]at h;exact h|ok d s=>rw[a]at h;exact λv b t j r u=>h b t _ j ((g.ext j).set r i) u
def znH(n:PE X e (tX X cf x))(o:PSs X rest (tS X cf r)):PSs X (.Return (Φ e) pos::rest) (tS X cf (.retX x r)):=by refine PSs.imp (zaC (zm0 n) o) λE q H ⟨m,s,S,Q,t,u,w,l⟩=>⟨m,s,S,t,u,?_⟩;(conv at w=>lhs;whnf);cases f:exX cf x m S with|bad=>rw[f]at w;exact w.elim|err d g=>rw[f]at w;exact λa b h y lo c i z j A B C G I=>l (.ex d) b h g i j w a q c y z A (B.mono C)|ok d g=>rw[f]at w;exact λv b h i r j=>l (.rt d) b h g i j w v r
end
abbrev zr8:CL->Bool|.comp ..=>Γ|_=>Δ
abbrev isR1:CL->Bool|.rng1 _=>Γ|_=>Δ
abbrev zmg:CL->Bool|.rng1 _=>Γ|.rng2 _ _=>Γ|.enum _=>Γ|_=>Δ
abbrev zhF:CL->Bool|.enum _=>Γ|_=>Δ
set_option backward.match.sparseCases false
abbrev zhG:Expr->Bool|.Tuple _ _ _=>Γ|_=>Δ
abbrev zbc:Expr->List Str
 |.Name x _=>[x]|.Tuple a _ _=>a.filterMap λ|.Name x _=>Φ x|_=>Ψ
 |_=>[]
abbrev zmy(a scope:Scope)(N:List Str)(b:List Nat):Bool:=
 decide (scope.kind=.function)&&scope.names.all (λy=>decide (y.2≠.cell))&&scope.names.all (λy=>decide (y.2≠.local)||decide (scope.names.lookup y.1=Φ .local))
  && scope.names.all (λy=>decide (y.2≠.free)||decide (a.names.lookup y.1=Φ .cell)||decide (a.names.lookup y.1=Φ .free))&&b.all (λj=>decide (scope.names.lookup (N.getD j "")=Φ .free)&&decide (j<N.length))
abbrev nmB(x:Str):Bool:=!(x==("__debug__":Str))&&!(x==("__classdict__":Str))&&!(x==("__name__":Str))
abbrev tyB(t:String)(y:Str):Bool:=(t=="bool"&&y==("bool":Str))||(t=="int"&&y==("int":Str))||(t=="str"&&y==("str":Str))||(t=="list"&&y==("list":Str))||(t=="tuple"&&y==("tuple":Str))||(t=="dict"&&y==("dict":Str))
abbrev biB:Bi->Str->Nat->Bool
 |.len,x,n=>x==("len":Str)&&n==1|.abs,x,n=>x==("abs":Str)&&n==1|.isin _,_,_=>Δ
abbrev zbk:Expr->Option Str|.Name x _=>Φ x|_=>Ψ
abbrev zjy:Expr->Option Const|.Constant c _ _=>Φ c|_=>Ψ
abbrev zon:Expr->Option (Expr×Operator×Expr)|.BinOp l o r _=>Φ (l,o,r)|_=>Ψ
abbrev rdUn:Expr->Option (UnaryOp×Expr)|.UnaryOp o x _=>Φ (o,x)|_=>Ψ
abbrev zjz:Expr->Option (Expr×List CmpOp×List Expr)|.Compare l os a _=>Φ (l,os,a)|_=>Ψ
abbrev zfv:Expr->Option (BoolOp×List Expr×Pos)|.BoolOp o a p=>Φ (o,a,p)|_=>Ψ
abbrev rdIf:Expr->Option (Expr×Expr×Expr)|.IfExp t x y _=>Φ (t,x,y)|_=>Ψ
abbrev zlx:Expr->Option (List Expr)|.Tuple a _ _=>Φ a|_=>Ψ
abbrev zmX:Expr->Option (List Expr)|.List a _=>Φ a|_=>Ψ
abbrev zgt:Expr->Option (Expr×Expr)|.Dict [Φ k] [v] _=>Φ (k,v)|_=>Ψ
abbrev zjx:Expr->Bool|.Dict a b _=>a.isEmpty&&b.isEmpty|_=>Δ
abbrev zly:Expr->Option (Expr×Expr)|.Subscript x i _=>Φ (x,i)|_=>Ψ
abbrev zun:Expr->Option Expr|.Slice Ψ Ψ (Φ s) _=>Φ s|_=>Ψ
abbrev zdv:Expr->Option (Expr×List Expr×List Keyword×Pos)|.Call f a b p=>Φ (f,a,b,p)|_=>Ψ
abbrev zcY:Expr->Option (Expr×Str×Pos)|.Attribute o x p=>Φ (o,x,p)|_=>Ψ
abbrev rdLC:Expr->Option (Expr×List Comprehension×Scope×Pos)|.ListComp e a b p=>Φ (e,a,b,p)|_=>Ψ
set_option backward.match.sparseCases true
section
variable{e l r x y i f:Expr}{xs rs as:List Expr}{ks:List Keyword}{p:Pos}
def zaD(h:zbk e=Φ n):∃p,e=.Name n p:=by cases e<;>first|(cases h;exact⟨_,rfl⟩)|exact nS h
def zgv(h:zjy e=Φ c):∃j p,e=.Constant c j p:=by cases e<;>first|(cases h;exact⟨_,_,rfl⟩)|exact nS h
def zfw(h:zon e=Φ (l,o,r)):∃p,e=.BinOp l o r p:=by cases e<;>first|(cases h;exact⟨_,rfl⟩)|exact nS h
def zeM(h:rdUn e=Φ (o,x)):∃p,e=.UnaryOp o x p:=by cases e<;>first|(cases h;exact⟨_,rfl⟩)|exact nS h
def zcn{os}(h:zjz e=Φ (l,os,rs)):∃p,e=.Compare l os rs p:=by cases e<;>first|(cases h;exact⟨_,rfl⟩)|exact nS h
def zbT(h:zfv e=Φ (o,xs,p)):e=.BoolOp o xs p:=by cases e<;>first|(cases h;rfl)|exact nS h
def zhj(h:rdIf e=Φ (l,x,y)):∃p,e=.IfExp l x y p:=by cases e<;>first|(cases h;exact⟨_,rfl⟩)|exact nS h
def zds(h:zlx e=Φ xs):∃j p,e=.Tuple xs j p:=by cases e<;>first|(cases h;exact⟨_,_,rfl⟩)|exact nS h
def zih(h:zmX e=Φ xs):∃p,e=.List xs p:=by cases e<;>first|(cases h;exact⟨_,rfl⟩)|exact nS h
def zgs(h:zgt e=Φ z):∃p,e=.Dict [Φ z.1] [z.2] p:=by
 cases e with|Dict k v p=>_|_=>exact nS h
 rcases k with _|⟨_|k,_|_⟩<;>try exact nS h
 rcases v with _|⟨v,_|_⟩
 exact nS h;cases h;exact⟨_,rfl⟩;exact nS h
def zgu(h:zjx e=Γ):∃p,e=.Dict [] [] p:=by
 cases e with
 |Dict ks a p=>
  cases ks with
  |cons _ _=>exact nB h
  |nil=>
   cases a with
   |cons _ _=>exact nB h
   |nil=>exact⟨_,rfl⟩
 |_=>exact nB h
def zdt(h:zly e=Φ (x,i)):∃p,e=.Subscript x i p:=by cases e<;>first|(cases h;exact⟨_,rfl⟩)|exact nS h
def zcG(h:zdv e=Φ (f,as,ks,p)):e=.Call f as ks p:=by cases e<;>first|(cases h;rfl)|exact nS h
def zbq(h:zcY e=Φ (x,n,p)):e=.Attribute x n p:=by cases e<;>first|(cases h;rfl)|exact nS h
def zeN(h:rdLC e=Φ (x,gs,a,p)):e=.ListComp x gs a p:=by cases e<;>first|(cases h;rfl)|exact nS h
end
def zaa{a:Type}{o:Option a}{f:a->Bool}(h:o.any f=Γ):∃x,o=Φ x/\f x=Γ:=by
 cases o with
 |none=>exact nB h
 |some x=>exact⟨x,rfl,h⟩
abbrev one{a:Type}:List a->Option a | [x]=>Φ x|_=>Ψ
def zaH(h:one xs=Φ x):xs=[x]:=by match xs,h with| [y],h=>cases h;rfl
abbrev two{a:Type}:List a->Option (a×a) | [x,y]=>Φ (x,y)|_=>Ψ
def two_inv(h:two xs=Φ (x,y)):xs=[x,y]:=by match xs,h with| [a,b],h=>cases h;rfl
abbrev zaK(e:Expr):Option (Str×List Expr):=(zdv e).bind λq=>if q.2.2.1.isEmpty then(zbk q.1).map λx=>(x,q.2.1) else Ψ
def zax(h:zaK e=Φ (x,as)):∃a p,e=.Call (.Name x a) as [] p:=by
 unfold zaK at h;cases q:zdv e with
 |none=>rw[q]at h;exact nS h
 |some z=>
  let⟨f,g,d,p⟩:=z;rw[q]at h;dsimp only[Ϛ]at h;split at h;rename_i c;cases b:zbk f with
  |none=>rw[b]at h;exact nS h
  |some y=>
   let⟨a,rfl⟩:=zaD b;cases d with
   |cons _ _=>exact nB c
   |nil=>cases h;exact⟨a,p,zcG q⟩
  exact nS h
set_option backward.match.sparseCases false in
abbrev zok:Expr->Option (Expr×Expr)
 |.Call (.Name x _) [o] [⟨Φ k,l,_⟩] _=>if x="sorted"/\k="key" then Φ (o,l) else Ψ|_=>Ψ
def zjt(h:zok e=Φ (o,l)):∃a b d,e=.Call (.Name "sorted" a) [o] [⟨Φ "key",l,b⟩] d:=by
 cases e with|Call f a k p=>_|_=>exact nS h
 cases f with|Name x q=>_|_=>exact nS h
 rcases a with _|⟨u,_|_⟩;exact nS h;rotate_left;exact nS h
 rcases k with _|⟨⟨_|k,m,r⟩,_|_⟩
 any_goals exact nS h
 unfold zok at h;dsimp only at h;split at h;rename_i c;let⟨rfl,rfl⟩:=c;cases h;exact⟨_,_,_,rfl⟩;exact nS h
abbrev za7(e:Expr):Option (Str×Expr):=(zaK e).bind λq=>(one q.2).map λa=>(q.1,a)
def zaF(h:za7 e=Φ (x,a)):∃d p,e=.Call (.Name x d) [a] [] p:=by
 unfold za7 at h;cases q:zaK e with
 |none=>rw[q]at h;exact nS h
 |some z=>
  let⟨y,f⟩:=z;rw[q]at h;dsimp only[Ϛ]at h;cases c:one f with
  |none=>rw[c]at h;exact nS h
  |some b=>rw[c]at h;cases h;rw[zaH c]at q;exact zax q
abbrev zhi(e:Expr):Option (Expr×Str×Pos×Expr×Pos):=(zdv e).bind λq=>if q.2.2.1.isEmpty then(zcY q.1).bind λa=>(one q.2.1).map λy=>(a.1,a.2.1,a.2.2,y,q.2.2.2) else Ψ
def zej(h:zhi e=Φ (o,x,i,a,j)):e=.Call (.Attribute o x i) [a] [] j:=by
 unfold zhi at h;cases q:zdv e with
 |none=>rw[q]at h;exact nS h
 |some z=>
  let⟨f,k,l,p⟩:=z;rw[q]at h;dsimp only[Ϛ]at h;split at h;rename_i c;cases d:zcY f with
  |none=>rw[d]at h;exact nS h
  |some y=>
   rw[d]at h;cases g:one k with
   |none=>rw[g]at h;exact nS h
   |some b=>
    rw[g]at h;cases h;cases l with
    |cons _ _=>exact nB c
    |nil=>rw[zcG q,zbq d,zaH g]
  exact nS h
abbrev zbJ(e:Expr):Option (Expr×Str×Pos×List Expr×Pos):=(zdv e).bind λq=>if q.2.2.1.isEmpty then(zcY q.1).map λa=>(a.1,a.2.1,a.2.2,q.2.1,q.2.2.2) else Ψ
def za0(h:zbJ e=Φ (o,x,b,as,d)):e=.Call (.Attribute o x b) as [] d:=by
 unfold zbJ at h;cases q:zdv e with
 |none=>rw[q]at h;exact nS h
 |some z=>
  let⟨f,j,g,p⟩:=z;rw[q]at h;dsimp only[Ϛ]at h;split at h;rename_i c;cases a:zcY f with
  |none=>rw[a]at h;exact nS h
  |some y=>
   rw[a]at h;cases h;cases g with
   |cons _ _=>exact nB c
   |nil=>rw[zcG q,zbq a]
  exact nS h
abbrev fnB(T:Tab)(f j:Nat)(x:Str):Bool:=match T.fns[f]? with|some (y,_,a)=>(y==x)&&decide (j<=a)|none=>Δ
abbrev conG(T:Tab)(d:D)(x:Str):Bool:=match T.cons.lookup x with|some a=>eqC a d|none=>Δ
set_option backward.match.sparseCases false
abbrev zul:CE->Bool|.con _=>Γ|_=>Δ
abbrev zgM:CL->Bool|.comp ..=>Γ|_=>Δ
abbrev zkk:CE->Bool|.tst (.con (.bl Γ))=>Γ|_=>Δ
set_option backward.match.sparseCases true
abbrev zoL:CEs->Bool|.cons _ .nil=>Γ|_=>Δ
abbrev zoP:CEs->Bool|.nil=>Γ|_=>Δ
abbrev mtN:Mt->Str->Bool
 |.append,x=>x==("append":Str)
abbrev ztQ:Bi->Option String|.isin t=>Φ t|_=>Ψ
abbrev tgB(a:Scope)(N:List Str)(g:List Nat)(b:Expr):Bool:=match zbk b with|some x=>(match one g with|some i=>(N[i]?==Φ x)&&zb5 a x|none=>Δ)|none=>(zlx b).any λc=>decide (2<=g.length)&&zb8 a N g c
mutual
noncomputable def chkE(T:Tab)(e₀:CE)(N:List Str)(sc:Scope)(e:Expr):Bool:=match e₀ with
 |.loc i=>(zbk e).any λx=>(N[i]?==Φ x)&&zmf sc x&&nmB x|.con d=>(zjy e).any (λc=>conB d c)||(zbk e).any λx=>isGl sc x&&conG T d x&&nmB x
 |.tst _=>Δ|.bin op a b=>(zon e).any λq=>decide (q.2.1=op)&&chkE T a N sc q.1&&chkE T b N sc q.2.2|.neg a=>(rdUn e).any λq=>decide (q.1=.USub)&&chkE T a N sc q.2|.nt a=>(rdUn e).any λq=>decide (q.1=.Not)&&chkE T a N sc q.2|.cmp op a b=>(zjz e).any λq=>decide (q.2.1=[op])&&(one q.2.2).any λr=>zaU r&&chkE T a N sc q.1&&chkE T b N sc r|.cmp2 op op' a b c=>(zjz e).any λq=>decide (q.2.1=[op,op'])&&(two q.2.2).any λr=>zaU r.1&&zaU r.2&&chkE T a N sc q.1&&chkE T b N sc r.1&&chkE T c N sc r.2
 |.and a b=>(zfv e).any λq=>decide (q.1=.And)&&(match q.2.1 with
  |x::y::rest=>chkE T a N sc x&&(if rest.isEmpty then chkE T b N sc y else chkE T b N sc (.BoolOp .And (y::rest) q.2.2))|_=>Δ)
 |.or a b=>(zfv e).any λq=>decide (q.1=.Or)&&(match q.2.1 with
  |x::y::rest=>chkE T a N sc x&&(if rest.isEmpty then chkE T b N sc y else chkE T b N sc (.BoolOp .Or (y::rest) q.2.2))|_=>Δ)
 |.ite c a b=>(rdIf e).any λq=>chkT T c N sc q.1&&chkE T a N sc q.2.1&&chkE T b N sc q.2.2|.tup es=>(zlx e).any λxs=>zbA T es N sc xs|.lst es=>(zmX e).any λxs=>zbA T es N sc xs|.dnew=>zjx e|.srtK a=>(zok e).any λq=>(((bltB T sc "sorted"&&zai q.1)&&lamB q.2)&&decide (N=T.lam))&&chkE T a N sc q.1|.dic1 a b=>(zgt e).any λq=>chkE T a N sc q.1&&chkE T b N sc q.2|.dsrt a=>(za7 e).any λq=>(q.1==("sorted":Str))&&bltB T sc q.1&&zai q.2&&chkE T a N sc q.2|.dgetI a b c=>(zbJ e).any λq=>(two q.2.2.2.1).any λz=>(q.2.1==("get":Str))&&zai z.1&&zai z.2&&zaN q.1&&(q.2.2.1.endLine==q.2.2.2.2.line)&&chkE T a N sc q.1&&chkE T b N sc z.1&&chkE T c N sc z.2|.dsetI a b c=>(zbJ e).any λq=>(two q.2.2.2.1).any λz=>(q.2.1==("setdefault":Str))&&zai z.1&&zai z.2&&zaN q.1&&(q.2.2.1.endLine==q.2.2.2.2.line)&&chkE T a N sc q.1&&chkE T b N sc z.1&&chkE T c N sc z.2|.extv a b=>(zhi e).any λq=>(q.2.1==("extend":Str))&&zai q.2.2.2.1&&zaN q.1&&(q.2.2.1.endLine==q.2.2.2.2.line)&&chkE T a N sc q.1&&chkE T b N sc q.2.2.2.1|.fld a f=>(zcY e).any λq=>decide (q.2.1=f)&&zaN q.1&&T.flds.contains f&&chkE T a N sc q.1|.mk c f x j es=>(zaK e).any λq=>decide (q.1=x)&&isGl sc x&&nmB x&&decide (T.cls[c]?=Φ x)&&T.inits.contains (c,f,j)&&(!q.2.isEmpty||zoP es)&&zbA T es N sc q.2|.meth m tb o es=>(zbJ e).any λq=>decide (q.2.1=m)&&mtB T m tb&&zaN q.1&&(q.2.2.1.endLine==q.2.2.2.2.line)&&decide (q.2.2.2.1.length<29)&&(!q.2.2.2.1.isEmpty||zoP es)&&chkE T o N sc q.1&&zbA T es N sc q.2.2.2.1|.callC f x m es=>(zbJ e).any λq=>(zbk q.1).any λy=>decide (y=x)&&decide (q.2.1=m)&&isGl sc x&&nmB x&&T.cms.contains (x,m,f)&&(q.2.2.1.endLine==q.2.2.2.2.line)&&decide (q.2.2.2.1.length<29)&&!q.2.2.2.1.isEmpty&&zbA T es N sc q.2.2.2.1|.fldX a f=>(zcY e).any λq=>decide (q.2.1=f)&&zaN q.1&&T.xflds.contains f&&chkE T a N sc q.1|.iscX cs x a=>(zaK e).any λq=>(two q.2).any λz=>(zbk z.2).any λy=>(q.1==("isinstance":Str))&&bltB T sc q.1&&decide (y=x)&&isGl sc x&&nmB x&&(T.xisas.contains (x,cs)||T.xisbs.contains (x,cs))&&zai z.1&&chkE T a N sc z.1|.ix a b=>(zly e).any λq=>zcu q.2&&chkE T a N sc q.1&&chkE T b N sc q.2|.rep a b=>(zon e).any λq=>decide (q.2.1=.Mult)&&chkE T a N sc q.1&&chkE T b N sc q.2.2|.call f j es=>(zaK e).any λq=>isGl sc q.1&&nmB q.1&&fnB T f j q.1&&(!q.2.isEmpty||zoP es)&&zbA T es N sc q.2|.callW f j es=>(zaK e).any λq=>isGl sc q.1&&nmB q.1&&fnB T f j q.1&&!q.2.isEmpty&&zbA T es N sc q.2
 |.bi b es=>(zaK e).any λq=>bltB T sc q.1&&nmB q.1&&(match ztQ b with
  |some t=>(two q.2).any λz=>(zbk z.2).any λy=>(q.1==("isinstance":Str))&&tyB t y&&bltB T sc y&&nmB y&&zoL es&&zbA T es N sc [z.1]|none=>biB b q.1 q.2.length&&!q.2.isEmpty&&zbA T es N sc q.2)
 |.mt m o es=>(zhi e).any λq=>mtN m q.2.1&&zaN q.1&&(q.2.2.1.endLine==q.2.2.2.2.line)&&zoL es&&chkE T o N sc q.1&&zbA T es N sc [q.2.2.2.1]
 |.mkL l=>if zgM l then((rdLC e).isSome&&chkL T l N sc e)
  else(za7 e).any λq=>(q.1==("list":Str))&&bltB T sc q.1&&zai q.2&&(!(zmg l)||isR1 l)&&chkL T l N sc q.2
 |.mkT l=>(za7 e).any λq=>(q.1==("tuple":Str))&&bltB T sc q.1&&zai q.2&&(!(zmg l)||isR1 l)&&chkL T l N sc q.2|.all l=>(za7 e).any λq=>(q.1==("all":Str))&&bltB T sc q.1&&zai q.2&&!(zmg l)&&chkL T l N sc q.2|.min1 a=>(za7 e).any λq=>(q.1==("min":Str))&&bltB T sc q.1&&zai q.2&&chkE T a N sc q.2|.sset a=>(za7 e).any λq=>(za7 q.2).any λz=>(q.1==("sorted":Str))&&bltB T sc q.1&&(z.1==("set":Str))&&bltB T sc z.1&&zai z.2&&chkE T a N sc z.2
noncomputable def zbA(T:Tab)(e₀:CEs)(N:List Str)(sc:Scope)(es:List Expr):Bool:=match e₀ with|.nil=>es.isEmpty|.cons a r=>(match es with | []=>Δ|e::es=>zai e&&chkE T a N sc e&&zbA T r N sc es)
noncomputable def chkT(T:Tab)(e₀:CE)(N:List Str)(sc:Scope)(e:Expr):Bool:=match e₀ with
 |.cmp op a b=>(zjz e).any λq=>decide (q.2.1=[op])&&(one q.2.2).any λr=>zaU r&&chkE T a N sc q.1&&chkE T b N sc r|.cmp2 op op' a b c=>(zjz e).any λq=>decide (q.2.1=[op,op'])&&(two q.2.2).any λr=>zaU r.1&&zaU r.2&&chkE T a N sc q.1&&chkE T b N sc r.1&&chkE T c N sc r.2|.nt a=>(rdUn e).any λq=>decide (q.1=.Not)&&chkT T a N sc q.2
 |.and a b=>(zfv e).any λq=>decide (q.1=.And)&&(match q.2.1 with
  |x::y::rest=>chkT T a N sc x&&(if rest.isEmpty then chkT T b N sc y else chkT T b N sc (.BoolOp .And (y::rest) q.2.2))|_=>Δ)
 |.or a b=>(zfv e).any λq=>decide (q.1=.Or)&&(match q.2.1 with
  |x::y::rest=>chkT T a N sc x&&(if rest.isEmpty then chkT T b N sc y else chkT T b N sc (.BoolOp .Or (y::rest) q.2.2))|_=>Δ)
 |.tst a=>zhm e&&chkE T a N sc e|_=>Δ
noncomputable def chkL(T:Tab):CL->List Str->Scope->Expr->Bool
 |.val a,N,sc,e=>zaU e&&chkE T a N sc e|.rng1 a,N,sc,e=>(za7 e).any λq=>(q.1==("range":Str))&&bltB T sc q.1&&zai q.2&&chkE T a N sc q.2|.rng2 a b,N,sc,e=>(zaK e).any λq=>(two q.2).any λz=>(q.1==("range":Str))&&bltB T sc q.1&&zai z.1&&zai z.2&&chkE T a N sc z.1&&chkE T b N sc z.2|.enum a,N,sc,e=>(za7 e).any λq=>(q.1==("enumerate":Str))&&bltB T sc q.1&&zai q.2&&chkE T a N sc q.2
 |.comp nt js g it c e,N,sc,ex=>(rdLC ex).any λq=>(one q.2.1).any λz=>decide (z.is_async=0)&&zmy sc q.2.2.1 N js&&(zaU z.iter&&(zhG z.target||!(zhF it)))&&chkL T it N sc z.iter&&decide ((zbc z.target).length=nt)&&decide ((capN N (zbc z.target) js).Nodup/\capN N (zbc z.target) js≠T.lam)
  && tgB q.2.2.1 (capN N (zbc z.target) js) g z.target
  && (if z.ifs.isEmpty then zkk c else(one z.ifs).any λt=>chkT T c (capN N (zbc z.target) js) q.2.2.1 t)
  && chkE T e (capN N (zbc z.target) js) q.2.2.1 q.1
end
set_option backward.match.sparseCases false
abbrev zeO:Stmt->Option (Expr×Expr×Pos)|.Assign a v p=>(one a).map λt=>(t,v,p)|_=>Ψ
abbrev zol:Stmt->Option (Expr×List Stmt×List Stmt)|.If e a b _=>Φ (e,a,b)|_=>Ψ
abbrev zom:Stmt->Option (Expr×Expr×List Stmt)|.For c d b a _=>if a.isEmpty then Φ (c,d,b) else Ψ|_=>Ψ
abbrev zlz:Stmt->Option Expr|.Return v _=>v|_=>Ψ
abbrev zlB:Stmt->Option Expr|.Expr v _=>Φ v|_=>Ψ
set_option backward.match.sparseCases true
section
variable{s:Stmt}{e v tg it:Expr}{a b:List Stmt}{p:Pos}
def zbf(h:zeO s=Φ (tg,v,p)):s=.Assign [tg] v p:=by
 cases s with
 |Assign c v p=>
  replace h:Option.map _ (one c)=_:=h;cases q:one c with
  |none=>rw[q]at h;exact nS h
  |some t=>rw[q]at h;cases h;rw[zaH q]
 |_=>exact nS h
def zfu(h:zol s=Φ (e,a,b)):∃p,s=.If e a b p:=by cases s<;>first|(cases h;exact⟨_,rfl⟩)|exact nS h
def zjw(h:zom s=Φ (tg,it,b)):∃p,s=.For tg it b [] p:=by
 cases s with
 |For tg it b c p=>cases c with|nil=>cases h;exact⟨_,rfl⟩|cons _ _=>exact nS h
 |_=>exact nS h
def zft(h:zlz s=Φ e):∃p,s=.Return (Φ e) p:=by cases s with|Return v p=>subst h;exact⟨_,rfl⟩|_=>exact nS h
def zdu(h:zlB s=Φ e):∃p,s=.Expr e p:=by cases s<;>first|(cases h;exact⟨_,rfl⟩)|exact nS h
end
set_option backward.match.sparseCases false in
abbrev zju:Stmt->Option (Str×Expr)|.Raise (Φ e) Ψ _=>za7 e|_=>Ψ
def zgr(h:zju s=Φ (x,a)):∃d f p,s=.Raise (Φ (.Call (.Name x d) [a] [] f)) Ψ p:=by
 cases s with
 |Raise e c p=>
  cases e with
  |none=>exact nS h
  |some e=>cases c with|none=>let⟨g,i,rfl⟩:=zaF h;exact⟨_,_,_,rfl⟩|some c=>exact nS h
 |_=>exact nS h
abbrev zlA:ExceptHandler->Option (Str×Str×Str)|.ExceptHandler (Φ (.Name c _)) (Φ n) [.Assign [.Name y _] (.Name m _) _] _=>if m=n then Φ (c,n,y) else Ψ|_=>Ψ
def zjv(e:zlA h=Φ (c,n,y)):∃d f g i j,h=.ExceptHandler (Φ (.Name c d)) (Φ n) [.Assign [.Name y f] (.Name n g) i] j:=by
 rcases h with⟨_|t,_|n,b,j⟩
 any_goals first|exact nS e|(cases t<;>exact nS e)
 cases t with|Name c d=>_|_=>exact nS e
 rcases b with _|⟨s,t⟩;exact nS e
 cases s with|Assign a v p=>_|_=>exact nS e
 rcases a with _|⟨a,z⟩;exact nS e
 cases a with|Name y q=>_|_=>exact nS e
 cases z with|nil=>_|cons _ _=>exact nS e
 cases v with|Name m r=>_|_=>exact nS e
 cases t with|nil=>_|cons _ _=>exact nS e
 unfold zlA at e;dsimp only at e;split at e;rename_i z;subst z;cases e;exact⟨_,_,_,_,_,rfl⟩;exact nS e
set_option backward.match.sparseCases false in
abbrev zoj:Stmt->Option (List Stmt×Str×Str×Str)|.Try c f d fin _=>if d.isEmpty&&fin.isEmpty then(one f).bind λh=>(zlA h).map λq=>(c,q) else Ψ|_=>Ψ
def zjs(h:zoj s=Φ (b,m,n,y)):∃d f g i j p,s=.Try b [.ExceptHandler (Φ (.Name m d)) (Φ n) [.Assign [.Name y f] (.Name n g) i] j] [] [] p:=by
 cases s with
 |Try l o r fin p=>
  replace h:ite _ _ _=_:=h;split at h;rename_i c;rw[Ε,isEmpty_iff,isEmpty_iff]at c;let⟨t,u⟩:=c;subst t u;cases e:one o with
  |none=>rw[e]at h;exact nS h
  |some w=>rw[e]at h;cases zaH e;cases k:zlA w with|none=>simp[k]at h| some q=>simp[k]at h;let⟨rfl,rfl,rfl,rfl⟩:=h;let⟨d,f,g,i,j,rfl⟩:=zjv k;exact⟨d,f,g,i,j,p,rfl⟩
  exact nS h
 |_=>exact nS h
abbrev chkX(T:Tab)(g:XE)(N:List Str)(d:Scope)(e:Expr):Bool:=match g with|.val a=>chkE T a N d e|.call f h=>(zaK e).any λq=>isGl d q.1&&nmB q.1&&T.xfns.contains f&&fnB T f 0 q.1&&!q.2.isEmpty&&zbA T h N d q.2|.meth m i o h=>(zbJ e).any λq=>decide (q.2.1=m)&&mtB T m i&&zaN q.1&&(q.2.2.1.endLine==q.2.2.2.2.line)&&decide (q.2.2.2.1.length<29)&&!q.2.2.2.1.isEmpty&&chkE T o N d q.1&&zbA T h N d q.2.2.2.1|.ix a b=>(zly e).any λq=>zcu q.2&&chkE T a N d q.1&&chkX T b N d q.2|.on o m i=>(zbJ e).any λq=>decide (q.2.1=m)&&mtB T m i&&zaN q.1&&(q.2.2.1.endLine==q.2.2.2.2.line)&&q.2.2.2.1.isEmpty&&chkX T o N d q.1|.ite c a b=>(rdIf e).any λq=>chkT T c N d q.1&&chkX T a N d q.2.1&&chkX T b N d q.2.2
abbrev chkB(T:Tab)(k:TrB)(N:List Str)(d:Scope)(st:List Stmt):Bool:=match k with
 |.asgX i x=>(one st).any λs=>(zeO s).any λz=>(zbk z.1).any λy=>(N[i]?==Φ y)&&zb5 d y&&za8 z.2.1&&chkX T x N d z.2.1|.run f h=>(one st).any λs=>(zlB s).any λe=>(zaK e).any λq=>isGl d q.1&&nmB q.1&&T.xfns.contains f&&fnB T f 0 q.1&&!q.2.isEmpty&&zbA T h N d q.2|.asg i f h=>(one st).any λs=>(zeO s).any λz=>(zbk z.1).any λy=>(zaK z.2.1).any λq=>(N[i]?==Φ y)&&zb5 d y&&isGl d q.1&&nmB q.1&&T.xfns.contains f&&fnB T f 0 q.1&&!q.2.isEmpty&&zbA T h N d q.2|.ite c a b=>(one st).any λs=>(zol s).any λq=>chkT T c N d q.1&&chkB T a N d q.2.1&&chkB T b N d q.2.2|.mk c f x j h=>(one st).any λs=>(zlB s).any λe=>(zaK e).any λq=>decide (q.1=x)&&isGl d x&&nmB x&&decide (T.cls[c]?=Φ x)&&T.inits.contains (c,f,j)&&!q.2.isEmpty&&zbA T h N d q.2
 |.comp i m l g it f h=>(one st).any λs=>(zeO s).any λu=>(zbk u.1).any λy=>(rdLC u.2.1).any λq=>(one q.2.1).any λz=>(zaK q.1).any λw=>decide (z.is_async=0)&&zmy d q.2.2.1 N l&&(zaU z.iter&&(zhG z.target||!(zhF it)))&&chkL T it N d z.iter&&decide ((zbc z.target).length=m)&&decide ((capN N (zbc z.target) l).Nodup/\capN N (zbc z.target) l≠T.lam)
  && tgB q.2.2.1 (capN N (zbc z.target) l) g z.target&&z.ifs.isEmpty&&(N[i]?==Φ y)&&zb5 d y&&isGl q.2.2.1 w.1&&nmB w.1&&T.xfns.contains f&&fnB T f 0 w.1&&!w.2.isEmpty&&zbA T h (capN N (zbc z.target) l) q.2.2.1 w.2
abbrev chkS(T:Tab)(j:CS)(N:List Str)(h:Scope)(st:List Stmt):Bool:=match j with|.nil=>st.isEmpty|.stop=>Γ|.asg i e r=>(match st with | []=>Δ|s::d=>(zeO s).any λq=>(zbk q.1).any λx=>(N[i]?==Φ x)&&zb5 h x&&chkE T e N h q.2.1&&chkS T r N h d)|.asgT g e r=>(match st with | []=>Δ|s::d=>(zeO s).any λq=>(zlx q.1).any λn=>((zbk q.2.1).isSome||(zaK q.2.1).isSome)&&decide (2<=g.length)&&zb8 h N g n&&chkE T e N h q.2.1&&chkS T r N h d)|.setIx a b e r=>(match st with | []=>Δ|s::d=>(zeO s).any λq=>(zly q.1).any λz=>za8 q.2.1&&chkE T a N h z.1&&chkE T b N h z.2&&chkE T e N h q.2.1&&chkS T r N h d)|.setF a f e r=>(match st with | []=>Δ|s::d=>(zeO s).any λq=>(zcY q.1).any λz=>decide (z.2.1=f)&&T.flds.contains f&&za8 q.2.1&&chkE T a N h z.1&&chkE T e N h q.2.1&&chkS T r N h d)|.ifS c t u r=>(match st with | []=>Δ|s::d=>(zol s).any λq=>chkT T c N h q.1&&chkS T t N h q.2.1&&chkS T u N h q.2.2&&chkS T r N h d)|.forS g l b r=>(match st with | []=>Δ|s::d=>(zom s).any λq=>zaU q.2.1&&chkL T l N h q.2.1&&chkS T b N h q.2.2&&chkS T r N h d&&(tgB h N g q.1&&(zhG q.1||!(zhF l))))|.retX x r=>(match st with | []=>Δ|s::d=>(zlz s).any λv=>chkX T x N h v&&chkS T r N h d)|.ret e r=>(match st with | []=>Δ|s::d=>(zlz s).any λv=>chkE T e N h v&&chkS T r N h d)|.expr e r=>(match st with | []=>Δ|s::d=>(zlB s).any λv=>za8 v&&chkE T e N h v&&chkS T r N h d)|.rais c x f a=>(match st with | []=>Δ|s::_=>(zju s).any λq=>decide (q.1=x)&&isGl h x&&nmB x&&T.xcs.contains (c,x,f)&&zai q.2&&chkE T a N h q.2)|.blk b r=>(match st with | []=>Δ|s::d=>chkB T b N h [s]&&chkS T r N h d)|.tryS b x k m r=>(match st with | []=>Δ|s::d=>(zoj s).any λq=>decide (q.2.1=x)&&isGl h x&&nmB x&&T.xtrs.contains x&&(N[k]?==Φ q.2.2.1)&&(N[m]?==Φ q.2.2.2)&&decide (h.names.lookup q.2.2.1=Φ .local)&&zb5 h q.2.2.2&&nmB q.2.2.1&&decide (k≠m)&&chkB T b N h q.1&&chkS T r N h d)
end R
section
set_option maxHeartbeats 8000000
namespace R
open PySem PySem.Spec PyProof.Rows L2
variable[Mks]
section
variable{T:Tab}{cf:CF}{k:Nat}{N:List Str}{sc:Scope}{X:Cx}
def zbL(env)(x):∀{names:List (Str×NameKind)}{a:NameKind},names.lookup x=Φ a->a≠.free->(names.map (zb4 env)).lookup x=Φ a
 | [],_,h,_=>by simp at h| y::r,a,h,c=>by
  rw[Υ];have d:=zdr env y;have b:=zdq env y;let⟨n,f⟩:=y;generalize l:zb4 env (n,f)=z at *;let⟨i,j⟩:=z;simp only at d b;subst d;rw[lookup_cons]at h⊢;cases g:x==i with
  |true=>rw[g]at h;have e:=Option.some.inj h;subst e;rcases b with b|⟨q,_⟩;rw[b];exact absurd q c
  |false=>rw[g]at h;exact zbL env x h c
def ze9(G:Gd T cf k N sc X)(h:zmy sc scope N b=Γ):CompOk X.env.scope scope X.N b:=by unfold zmy at h;simp![Ε,all_eq_true,decide_eq_true_eq,ϙ]at h;let⟨⟨⟨⟨c,d⟩,f⟩,g⟩,i⟩:=h;refine⟨c,d,λy a e=>?_,λy a e=>?_,λj l=>?_⟩;rcases f y a with z|z;exact absurd e z;exact z;rcases g y a with (z|z)|z;exact absurd e z;exact .inl (G.cell _ z);exact(G.free _ z).symm;rw[G.nm];exact i j l
def zgO(G:Gd T cf k N sc X)(ok:CompOk X.env.scope scope X.N b)(d:(capN N tgs b).Nodup/\capN N tgs b≠T.lam)(cl)(C)(f)(s)(H)(pn):
  Gd T cf k (capN N tgs b) scope (zaG X (capN X.N tgs b) scope cl C f s H pn):=by
 have a:(zaG X (capN X.N tgs b) scope cl C f s H pn).env.scope.names=scope.names.map (zb4 X.env):=zbw scope X.env;have c:∀x,scope.names.lookup x≠Φ .cell:=λx e=>ok.nocell _ (PySem.mem_of_lookup e) rfl;refine⟨by rw[<-G.nm],d.1,λx e=>?_,λx e=>absurd e (c x),λx e=>?_,λx e=>?_,.inr c,G.calm,PassesOwn.never,G.room',G.tab,λz=>absurd z d.2⟩;exact zbL _ _ e (by decide);exact zbx _ _ _ e;exact zbL _ _ e (by decide)
def zaW(h:nmB x=Γ):(x==("__debug__":Str))=Δ/\(x==("__classdict__":Str))=Δ/\x≠("__name__":Str):=by unfold nmB at h;simp![Ε,Ϡ]at h;exact⟨h.1.1,h.1.2,λe=>by rw[e]at h;simp at h⟩
def zqa(h:tyB t y=Γ):t∈["bool","int","str","list","tuple","dict"]/\bootBuiltins y=Φ (.type t):=by unfold tyB at h;simp![ϙ,Ε,beq_iff_eq]at h;rcases h with ((((⟨rfl,rfl⟩|⟨rfl,rfl⟩)|⟨rfl,rfl⟩)|⟨rfl,rfl⟩)|⟨rfl,rfl⟩)|⟨rfl,rfl⟩;exact⟨by simp,zpE⟩;exact⟨by simp,zsE⟩;exact⟨by simp,zsA⟩;exact⟨by simp,zgY⟩;exact⟨by simp,zfh⟩;exact⟨by simp,zpD⟩
def zeu(h:fnB T f j x=Γ):∃a nd,T.fns[f]?=Φ (x,a,nd)/\j<=nd:=by
 unfold fnB at h;cases e:T.fns[f]? with
 |none=>rw[e]at h;exact nB h
 |some q=>let⟨y,a,nd⟩:=q;rw[e]at h;simp![Ε,beq_iff_eq,decide_eq_true_eq]at h;let⟨rfl,b⟩:=h;exact⟨a,nd,rfl,b⟩
def zay:∀{b:CEs}{N:List Str}{sc:Scope}{es:List Expr},zbA T b N sc es=Γ->es.all zai=Γ
 |.nil,N,sc,es,h=>by obtain rfl:=isEmpty_iff.mp h;rfl| .cons a r,N,sc,es,h=>by
  cases es with
  |nil=>exact nB h
  |cons e es=>replace h:=(Ε _ _).mp h;simp[((Ε _ _).mp h.1).1,zay h.2]
def zhZ(h:zoL es=Γ):∃a,es=.cons a .nil:=by
 cases es with
 |nil=>exact nB h
 |cons a r=>cases r with|nil=>exact⟨a,rfl⟩|cons _ _=>exact nB h
def ziF(G:Gd T cf k N sc X)(h:biB b x n=Γ):∃id,zbi X (.builtin id) (rB X.K λS ds=>R.bi S b ds)/\bootBuiltins x=Φ (.builtin id):=by cases b with|len=>simp![biB,Ε,beq_iff_eq]at h;rw[h.1];exact⟨_,zrW,zsD⟩|abs=>simp![biB,Ε,beq_iff_eq]at h;rw[h.1];exact⟨_,zsN,zsG⟩|isin t=>simp[biB]at h
abbrev LOk(T:Tab)(cf:CF)(k:Nat)(cl:CL)(X:Cx)(e:Expr):Prop:=(zmg cl=Δ->PE X e (tL X.K cf cl))/\(zr8 cl=Γ->PE X e (tLt X.K cf cl))/\(∀c,(zhG c||!(zhF cl))=Γ->PI X c e (tI X.K cf cl))/\
 ∀a,cl=.rng1 a->∃b d p,e=.Call (.Name "range" d) [b] [] p/\(Gl X "range"/\X.mg "range"=Ψ)/\PE X b (tE X.K cf a)/\zai b=Γ
abbrev EsOk(cf:CF)(b:CEs)(X:Cx)(es:List Expr):Prop:=PA X es (tAs X.K cf b)/\∀a r e c,b=.cons a r->es=e::c->PE X e (tE X.K cf a)
def zle(G:Gd T cf k N sc X)(h:tgB sc N g a=Γ):PG X a (tG X.K g):=by unfold tgB at h;split at h;rename_i x q;let⟨p,rfl⟩:=zaD q;split at h;rename_i i b;rw[zaH b];replace h:=qb1 h;exact znR G h.1 h.2;exact nB h;replace h:=zaa h;let⟨c,q,h⟩:=h;let⟨j,p,rfl⟩:=zds q;replace h:=qd1 h;exact zmS G h.2 h.1
def zg7(h:zkk c=Γ):PTs X [] (tT X.K cf c):=by
 have f:c=.tst (.con (.bl Γ)):=by
  cases c with
  |tst a=>
   cases a with
   |con d=>
    cases d with
    |bl b=>cases b with|true=>rfl|false=>exact nB h
    |_=>exact nB h
   |_=>exact nB h
  |_=>exact nB h
 subst f;intro e g i j l I q;refine zgA e g i j l I ?_;let⟨o,m,S,Q,p,n,w,q⟩:=q;exact q _ _ ⟨m,S,Ext.refl _ _,n,w⟩
def za9{x y:Str}(h:(x==y)=Γ):x=y:=by simpa using h
mutual
theorem zae:∀(ce:CE){N:List Str}{sc:Scope}{e:Expr}{X:Cx},Gd T cf k N sc X->chkE T ce N sc e=Γ->PE X e (tE X.K cf ce)
 |.loc i,N,sc,e,X,G,h=>by replace h:=zaa h;let⟨x,q,h⟩:=h;let⟨p,rfl⟩:=zaD q;replace h:=qL qb1 h;let⟨h1,h2,_⟩:=zaW h.2;exact zqL G h.1.1 h.1.2 h1 h2| .con d,N,sc,e,X,G,h=>by replace h:=(ϙ _ _).mp h;rcases h with h|h;replace h:=zaa h;let⟨c,q,h⟩:=h;let⟨j,p,rfl⟩:=zgv q;exact zqO h;replace h:=zaa h;let⟨x,q,h⟩:=h;let⟨p,rfl⟩:=zaD q;replace h:=qL qa1 h;let⟨h1,h2,_⟩:=zaW h.2;have h3:=h.1.2;unfold conG at h3;split at h3;rename_i d' e';exact zn2 G h.1.1 e' h3 h1;exact nB h3
 |.tst a,N,sc,e,X,G,h=>by exact nB h| .bin op a b,N,sc,e,X,G,h=>by replace h:=zaa h;let⟨⟨l,o,r⟩,q,h⟩:=h;let⟨p,rfl⟩:=zfw q;replace h:=qL qd1 h;let⟨⟨rfl,h1⟩,h2⟩:=h;exact zqQ (zae a G h1) (zae b G h2)| .neg a,N,sc,e,X,G,h=>by replace h:=zaa h;let⟨⟨o,x⟩,q,h⟩:=h;let⟨p,rfl⟩:=zeM q;replace h:=qd1 h;let⟨rfl,h1⟩:=h;exact zqG (zae a G h1)| .nt a,N,sc,e,X,G,h=>by replace h:=zaa h;let⟨⟨o,x⟩,q,h⟩:=h;let⟨p,rfl⟩:=zeM q;replace h:=qd1 h;let⟨rfl,h1⟩:=h;exact zti (zae a G h1)| .cmp op a b,N,sc,e,X,G,h=>by replace h:=zaa h;let⟨⟨l,os,rs⟩,q,h⟩:=h;let⟨p,rfl⟩:=zcn q;replace h:=qd1 h;let⟨e1,h⟩:=h;replace h:=zaa h;let⟨r,q2,h⟩:=h;cases zaH q2;cases e1;replace h:=qL qa1 h;exact zqP G (zae a G h.1.2) (zae b G h.2) h.1.1| .cmp2 op op' a b c,N,sc,e,X,G,h=>by replace h:=zaa h;let⟨⟨l,os,rs⟩,q,h⟩:=h;let⟨p,rfl⟩:=zcn q;replace h:=qd1 h;let⟨e1,h⟩:=h;replace h:=zaa h;let⟨⟨r,r'⟩,q2,h⟩:=h;cases two_inv q2;cases e1;replace h:=qL (qL (qL qa1)) h;let⟨⟨⟨⟨h1,h2⟩,h3⟩,h4⟩,h5⟩:=h;exact zn8 G (zae a G h3) (zae b G h4) (zae c G h5) h1 h2| .and a b,N,sc,e,X,G,h=>by replace h:=zaa h;let⟨⟨o,vs,p⟩,q,h⟩:=h;cases zbT q;replace h:=qd1 h;let⟨e1,h⟩:=h;cases e1;dsimp only at h;split at h;rename_i x y rest;replace h:=qa1 h;let⟨h1,h2⟩:=h;split at h2;rename_i c;cases isEmpty_iff.mp c;exact zmU (zae a G h1) (zm2 (zae b G h2));exact zmU (zae a G h1) (zae b G h2);exact nB h
 |.or a b,N,sc,e,X,G,h=>by replace h:=zaa h;let⟨⟨o,vs,p⟩,q,h⟩:=h;cases zbT q;replace h:=qd1 h;let⟨e1,h⟩:=h;cases e1;dsimp only at h;split at h;rename_i x y rest;replace h:=qa1 h;let⟨h1,h2⟩:=h;split at h2;rename_i c;cases isEmpty_iff.mp c;exact zqF (zae a G h1) (zm2 (zae b G h2));exact zqF (zae a G h1) (zae b G h2);exact nB h
 |.ite c a b,N,sc,e,X,G,h=>by replace h:=zaa h;let⟨⟨t,x,y⟩,q,h⟩:=h;let⟨p,rfl⟩:=zhj q;replace h:=qL qa1 h;exact zqM (zaQ c G h.1.1).1 (zae a G h.1.2) (zae b G h.2)| .tup es,N,sc,e,X,G,h=>by replace h:=zaa h;let⟨xs,q,h⟩:=h;let⟨j,p,rfl⟩:=zds q;exact zqD (zaE es G h).1| .lst es,N,sc,e,X,G,h=>by replace h:=zaa h;let⟨xs,q,h⟩:=h;let⟨p,rfl⟩:=zih q;exact zqK (zaE es G h).1| .dnew,N,sc,e,X,G,h=>by let⟨p,rfl⟩:=zgu h;exact zn6| .rep a b,N,sc,e,X,G,h=>by replace h:=zaa h;let⟨⟨l,o,r⟩,q,h⟩:=h;let⟨p,rfl⟩:=zfw q;replace h:=qL qd1 h;let⟨⟨rfl,h1⟩,h2⟩:=h;exact zqE (zae a G h1) (zae b G h2)| .dgetI a b c,N,sc,e,X,G,h=>by replace h:=zaa h;let⟨⟨oe,x,ap,as,cp⟩,q,h⟩:=h;cases za0 q;replace h:=zaa h;let⟨⟨e1,e2⟩,q2,h⟩:=h;cases two_inv q2;replace h:=qL (qL (qL (qL (qL (qL qa1))))) h;let⟨⟨⟨⟨⟨⟨⟨hx,h1⟩,h2⟩,h3⟩,h4⟩,h5⟩,h6⟩,h7⟩:=h;cases za9 hx;exact zlp G (zae a G h5) (zae b G h6) (zae c G h7) h1 h2 h3 h4| .dsetI a b c,N,sc,e,X,G,h=>by replace h:=zaa h;let⟨⟨oe,x,ap,as,cp⟩,q,h⟩:=h;cases za0 q;replace h:=zaa h;let⟨⟨e1,e2⟩,q2,h⟩:=h;cases two_inv q2;replace h:=qL (qL (qL (qL (qL (qL qa1))))) h;let⟨⟨⟨⟨⟨⟨⟨hx,h1⟩,h2⟩,h3⟩,h4⟩,h5⟩,h6⟩,h7⟩:=h;cases za9 hx;exact zlo G (zae a G h5) (zae b G h6) (zae c G h7) h1 h2 h3 h4| .extv a b,N,sc,e,X,G,h=>by replace h:=zaa h;let⟨⟨oe,x,ap,e1,cp⟩,q,h⟩:=h;cases zej q;replace h:=qL (qL (qL (qL qa1))) h;let⟨⟨⟨⟨⟨hx,h1⟩,h2⟩,h3⟩,h4⟩,h5⟩:=h;cases za9 hx;exact zn4 (zae a G h4) (zae b G h5) h1 h2 h3| .ix a b,N,sc,e,X,G,h=>by replace h:=zaa h;let⟨⟨x,i⟩,q,h⟩:=h;let⟨p,rfl⟩:=zdt q;replace h:=qL qa1 h;exact ztl (zae a G h.1.2) (zae b G h.2) h.1.1| .fld a f,N,sc,e,X,G,h=>by replace h:=zaa h;let⟨⟨o,f',p⟩,q,h⟩:=h;cases zbq q;replace h:=qL (qL qd1) h;let⟨⟨⟨rfl,h2⟩,h3⟩,h4⟩:=h;exact zqN G (zae a G h4) h2 h3| .mk c f x j es,N,sc,e,X,G,h=>by
  replace h:=zaa h;let⟨⟨x',args⟩,q,h⟩:=h;let⟨p2,p,rfl⟩:=zax q;simp![Ε,ϙ,decide_eq_true_eq]at h;let⟨⟨⟨⟨⟨⟨rfl,h1⟩,h2⟩,h3⟩,h4⟩,h5⟩,h6⟩:=h;let⟨n1,n2,n3⟩:=zaW h2;have ha:=(zaE es G h6).1;cases args with
  |nil=>
   have:es=.nil:=by cases es with|nil=>rfl|cons _ _=>rcases h5 with z|z<;>exact nB z
   rw[this];exact zqJ G h4 h3 h1 n1
  |cons a as=>exact ztk G h4 h3 h1 n1 ha (zay h6)
 |.meth m tb o es,N,sc,e,X,G,h=>by
  replace h:=zaa h;let⟨⟨oe,m',ap,args,cp⟩,q,h⟩:=h;cases za0 q;simp![Ε,ϙ,decide_eq_true_eq]at h;let⟨⟨⟨⟨⟨⟨⟨rfl,h1⟩,h2⟩,h3⟩,h4⟩,h5⟩,h6⟩,h7⟩:=h;have ho:=zae o G h6;have ha:=(zaE es G h7).1;cases args with
  |nil=>
   have:es=.nil:=by cases es with|nil=>rfl|cons _ _=>rcases h5 with z|z<;>exact nB z
   rw[this];exact zln G h1 ho h2 h3
  |cons a as=>exact znZ G h1 ho ha (zay h7) h2 h3 h4
 |.fldX a f,N,sc,e,X,G,h=>by replace h:=zaa h;let⟨⟨o,f',p⟩,q,h⟩:=h;cases zbq q;replace h:=qL (qL qd1) h;let⟨⟨⟨rfl,h2⟩,h3⟩,h4⟩:=h;exact zn3 G (zae a G h4) h2 h3| .iscX cs x a,N,sc,e,X,G,h=>by replace h:=zaa h;let⟨⟨x',args⟩,q,h⟩:=h;let⟨p2,p,rfl⟩:=zax q;replace h:=zaa h;let⟨⟨e1,e2⟩,q2,h⟩:=h;cases two_inv q2;replace h:=zaa h;let⟨y,q3,h⟩:=h;let⟨p3,rfl⟩:=zaD q3;rw[Ε,Ε,Ε,Ε,Ε,Ε,Ε,decide_eq_true_eq]at h;let⟨⟨⟨⟨⟨⟨⟨h0,h1⟩,rfl⟩,h2⟩,h3⟩,h4⟩,h5⟩,h6⟩:=h;cases za9 h0;exact zn1 G (zaX G h1) h2 (zaW h3).1 h4 (zae a G h6) h5| .callC f x m es,N,sc,e,X,G,h=>by
  replace h:=zaa h;let⟨⟨oe,m',ap,args,cp⟩,q,h⟩:=h;cases za0 q;replace h:=zaa h;let⟨y,q3,h⟩:=h;let⟨p3,rfl⟩:=zaD q3;simp![Ε,decide_eq_true_eq]at h;let⟨⟨⟨⟨⟨⟨⟨⟨rfl,rfl⟩,h1⟩,h2⟩,h3⟩,h4⟩,h5⟩,h6⟩,h7⟩:=h;cases args with
  |nil=>exact nB h6
  |cons a as=>exact zlr G h3 h1 (zaW h2).1 rfl (zaE es G h7).1 (zay h7) h5 h4
 |.call f j es,N,sc,e,X,G,h=>by
  replace h:=zaa h;let⟨⟨x,args⟩,q,h⟩:=h;let⟨p2,p,rfl⟩:=zax q;simp![Ε,ϙ]at h;let⟨⟨⟨⟨h1,h2⟩,h3⟩,h4⟩,h5⟩:=h;let⟨n1,n2,n3⟩:=zaW h2;let⟨ps,nd,hf,hj⟩:=zeu h3;have ha:=(zaE es G h5).1;cases args with
  |nil=>
   have:es=.nil:=by cases es with|nil=>rfl|cons _ _=>rcases h4 with z|z<;>exact nB z
   rw[this];exact zls G hf hj h1 n1
  |cons a as=>exact zn9 G hf hj h1 n1 ha (zay h5)
 |.callW f j es,N,sc,e,X,G,h=>by
  replace h:=zaa h;let⟨⟨x,args⟩,q,h⟩:=h;let⟨p2,p,rfl⟩:=zax q;replace h:=qL (qL (qL qa1)) h;let⟨⟨⟨⟨h1,h2⟩,h3⟩,h4⟩,h5⟩:=h;let⟨n1,n2,n3⟩:=zaW h2;let⟨ps,nd,hf,hj⟩:=zeu h3;have ha:=(zaE es G h5).1;cases args with
  |nil=>exact nB h4
  |cons a as=>exact zlq G hf hj h1 n1 ha (zay h5)
 |.bi b es,N,sc,e,X,G,h=>by
  replace h:=zaa h;let⟨⟨x,args⟩,q,h⟩:=h;let⟨p2,p,rfl⟩:=zax q;replace h:=qL qa1 h;let⟨⟨h1,h2⟩,h3⟩:=h;let⟨n1,n2,n3⟩:=zaW h2;split at h3;rename_i t qt;replace h3:=zaa h3;let⟨⟨e1,e2⟩,q2,h3⟩:=h3;cases two_inv q2;replace h3:=zaa h3;let⟨y,q3,h3⟩:=h3;let⟨p3,rfl⟩:=zaD q3;replace h3:=qL (qL (qL (qL qa1))) h3;let⟨⟨⟨⟨⟨hx,h4⟩,h5⟩,h6⟩,h7⟩,h8⟩:=h3;cases za9 hx;let⟨m1,m2,m3⟩:=zaW h6;let⟨t1,t2⟩:=zqa h4;let⟨a,ea⟩:=zhZ h7;have he:=(zaE es G h8).2 a .nil e1 [] ea rfl;have hst:=zay h8;have eb:b=.isin t:=by cases b with|isin _=>cases qt;rfl|_=>exact nS qt
  rw[ea,eb];exact zn0 G (zaX G h1) (zaX G h5) t2 t1 m3 m1 he (by simpa using hst);replace h3:=qL qa1 h3;cases args with
  |nil=>cases h3.1.2
  |cons a as=>let⟨id,hc,hv⟩:=ziF G h3.1.1;exact ztm hc (zaX G h1) hv (zaE es G h3.2).1 (zay h3.2) n3 n1
 |.mt m o es,N,sc,e,X,G,h=>by
  replace h:=zaa h;let⟨⟨oe,x,ap,e1,cp⟩,q,h⟩:=h;cases zej q;simp![Ε]at h;let⟨⟨⟨⟨⟨h1,h2⟩,h3⟩,h4⟩,h5⟩,h6⟩:=h;let⟨a,ea⟩:=zhZ h4;have he:=(zaE es G h6).2 a .nil e1 [] ea rfl;have hst:zai e1=Γ:=by simpa using zay h6
  rw[ea];cases m with| append=>cases za9 h1;exact ztj PySem.F.slot_list_append PySem.F.type_list_append zk5 (zae o G h5) he hst h2 h3
 |.mkL l,N,sc,e,X,G,h=>by
  replace h:ite (zgM l=Γ) _ _=Γ:=h;split at h;rename_i c;have ht:zr8 l=Γ:=by cases l with|comp=>rfl|_=>exact nB c
  exact PE.imp ((zbP l G ((Ε _ _).mp h).2).2.1 ht) λσ H Qv q=>zjW q;replace h:=zaa h;let⟨⟨x,e1⟩,q,h⟩:=h;let⟨p2,p,rfl⟩:=zaF q;simp![Ε,ϙ,Ϡ]at h;let⟨⟨⟨⟨hx,h1⟩,h2⟩,h3⟩,h4⟩:=h;cases za9 hx;have hl:=zbP l G h4;rcases h3 with h3|h3;exact zqI G (zaX G h1) (hl.1 h3) h2;have:∃a,l=.rng1 a:=by cases l with|rng1 a=>exact⟨a,rfl⟩|_=>exact nB h3
  let⟨a,ea⟩:=this;let⟨a',p3,p4,rfl,hr,ha,hs⟩:=hl.2.2.2 a ea;rw[ea];exact znX G (zaX G h1) hr ha hs
 |.mkT l,N,sc,e,X,G,h=>by
  replace h:=zaa h;let⟨⟨x,e1⟩,q,h⟩:=h;let⟨p2,p,rfl⟩:=zaF q;simp![Ε,ϙ,Ϡ]at h;let⟨⟨⟨⟨hx,h1⟩,h2⟩,h3⟩,h4⟩:=h;cases za9 hx;have hl:=zbP l G h4;rcases h3 with h3|h3;exact zqH G (zaX G h1) (hl.1 h3) h2;have:∃a,l=.rng1 a:=by cases l with|rng1 a=>exact⟨a,rfl⟩|_=>exact nB h3
  let⟨a,ea⟩:=this;let⟨a',p3,p4,rfl,hr,ha,hs⟩:=hl.2.2.2 a ea;rw[ea];exact zlm G (zaX G h1) hr ha hs
 |.all l,N,sc,e,X,G,h=>by replace h:=zaa h;let⟨⟨x,e1⟩,q,h⟩:=h;let⟨p2,p,rfl⟩:=zaF q;simp![Ε,Ϡ]at h;let⟨⟨⟨⟨hx,h1⟩,h2⟩,h3⟩,h4⟩:=h;cases za9 hx;exact zqR G (zaX G h1) ((zbP l G h4).1 h3) h2| .srtK a,N,sc,e,X,G,h=>by replace h:=zaa h;let⟨⟨o,le⟩,q,h⟩:=h;let⟨p1,p2,p3,rfl⟩:=zjt q;simp![Ε,decide_eq_true_eq]at h;let⟨⟨⟨⟨h1,h2⟩,h3⟩,h4⟩,h5⟩:=h;exact znW G h4 (zaX G h1) (zae a G h5) h2 h3| .dsrt a,N,sc,e,X,G,h=>by replace h:=zaa h;let⟨⟨x,e1⟩,q,h⟩:=h;let⟨p2,p,rfl⟩:=zaF q;replace h:=qL (qL qa1) h;let⟨⟨⟨hx,h1⟩,h3⟩,h5⟩:=h;cases za9 hx;exact zn5 G (zaX G h1) (zae a G h5) h3| .dic1 a b,N,sc,e,X,G,h=>by replace h:=zaa h;let⟨⟨x,e1⟩,q,h⟩:=h;let⟨p,rfl⟩:=zgs q;replace h:=qa1 h;exact zn7 (zae a G h.1) (zae b G h.2)| .min1 a,N,sc,e,X,G,h=>by replace h:=zaa h;let⟨⟨x,e1⟩,q,h⟩:=h;let⟨p2,p,rfl⟩:=zaF q;replace h:=qL (qL qa1) h;let⟨⟨⟨hx,h1⟩,h3⟩,h5⟩:=h;cases za9 hx;exact znY G (zaX G h1) (zae a G h5) h3| .sset a,N,sc,e,X,G,h=>by replace h:=zaa h;let⟨⟨x,e1⟩,q,h⟩:=h;let⟨p2,p,rfl⟩:=zaF q;replace h:=zaa h;let⟨⟨y,e2⟩,q2,h⟩:=h;let⟨p3,p4,hy⟩:=zaF q2;replace h:=qL (qL (qL (qL qa1))) h;let⟨⟨⟨⟨⟨hx,h1⟩,hz⟩,h2⟩,h3⟩,h5⟩:=h;cases za9 hx;cases za9 hz;dsimp only at hy;subst hy;exact znV G (zaX G h1) (zaX G h2) (zae a G h5) h3
theorem zaE:∀(ces:CEs){N:List Str}{sc:Scope}{es:List Expr}{X:Cx},Gd T cf k N sc X->zbA T ces N sc es=Γ->EsOk cf ces X es
 |.nil,N,sc,es,X,G,h=>by obtain rfl:=isEmpty_iff.mp h;exact⟨zmV,λa r e es' z=>by cases z⟩| .cons a r,N,sc,es,X,G,h=>by
  cases es with
  |nil=>exact nB h
  |cons e es=>replace h:=(Ε _ _).mp h;have he:=zae a G ((Ε _ _).mp h.1).2;exact⟨zji he (zaE r G h.2).1 ((Ε _ _).mp h.1).1,λa' r' e' es' z1 z2=>by cases z1;cases z2;exact he⟩
theorem zaQ(ce:CE){N:List Str}{sc:Scope}{e:Expr}{X:Cx}(G:Gd T cf k N sc X)(h:chkT T ce N sc e=Γ):PT X e (tT X.K cf ce)/\((∃op v r p,e=.BoolOp op (v::r) p)->PW X e (tT X.K cf ce)):=by
 cases ce with
 |cmp op a b=>replace h:=zaa h;let⟨⟨l,os,rs⟩,q,h⟩:=h;let⟨p,rfl⟩:=zcn q;replace h:=qd1 h;let⟨e1,h⟩:=h;replace h:=zaa h;let⟨r,q2,h⟩:=h;cases zaH q2;cases e1;replace h:=qL qa1 h;exact⟨zqs G (zae a G h.1.2) (zae b G h.2) h.1.1,λ⟨_,_,_,_,z⟩=>by cases z⟩| cmp2 op op' a b c=>replace h:=zaa h;let⟨⟨l,os,rs⟩,q,h⟩:=h;let⟨p,rfl⟩:=zcn q;replace h:=qd1 h;let⟨e1,h⟩:=h;replace h:=zaa h;let⟨⟨r,r'⟩,q2,h⟩:=h;cases two_inv q2;cases e1;replace h:=qL (qL (qL qa1)) h;let⟨⟨⟨⟨h1,h2⟩,h3⟩,h4⟩,h5⟩:=h;exact⟨znF G (zae a G h3) (zae b G h4) (zae c G h5) h1 h2,λ⟨_,_,_,_,z⟩=>by cases z⟩| nt a=>replace h:=zaa h;let⟨⟨o,x⟩,q,h⟩:=h;let⟨p,rfl⟩:=zeM q;replace h:=qd1 h;let⟨rfl,h1⟩:=h;exact⟨ztg (zaQ a G h1).1,λ⟨_,_,_,_,z⟩=>by cases z⟩| and a b=>replace h:=zaa h;let⟨⟨o,vs,p⟩,q,h⟩:=h;cases zbT q;replace h:=qd1 h;let⟨e1,h⟩:=h;cases e1;dsimp only at h;split at h;rename_i x y rest;replace h:=qa1 h;let⟨h1,h2⟩:=h;split at h2;rename_i c;cases isEmpty_iff.mp c;have w:=zmP (pos:=p) (zaQ a G h1).1 (zos (zaQ b G h2).1);exact⟨w.pt,λ_=>w⟩;have w:=zmP (zaQ a G h1).1 ((zaQ b G h2).2 ⟨_,_,_,_,rfl⟩);exact⟨w.pt,λ_=>w⟩;exact nB h
 |or a b=>replace h:=zaa h;let⟨⟨o,vs,p⟩,q,h⟩:=h;cases zbT q;replace h:=qd1 h;let⟨e1,h⟩:=h;cases e1;dsimp only at h;split at h;rename_i x y rest;replace h:=qa1 h;let⟨h1,h2⟩:=h;split at h2;rename_i c;cases isEmpty_iff.mp c;have w:=zqr (pos:=p) (zaQ a G h1).1 (zq9 (zaQ b G h2).1);exact⟨w.pt,λ_=>w⟩;have w:=zqr (zaQ a G h1).1 ((zaQ b G h2).2 ⟨_,_,_,_,rfl⟩);exact⟨w.pt,λ_=>w⟩;exact nB h
 |tst a=>replace h:=(Ε _ _).mp h;exact⟨zqq (zae a G h.2) h.1,λ⟨_,_,_,_,z⟩=>by rw[z]at h;exact nB h.1⟩|_=>exact absurd h Κ
theorem zbP:∀(cl:CL){N:List Str}{sc:Scope}{e:Expr}{X:Cx},Gd T cf k N sc X->chkL T cl N sc e=Γ->LOk T cf k cl X e
 |.val a,N,sc,e,X,G,h=>by replace h:=(Ε _ _).mp h;have hp:=zqA (zae a G h.2);exact⟨λ_=>hp,λz=>(by exact nB z),λtg _=>zmR hp zrU,λa z=>by cases z⟩| .rng1 a,N,sc,e,X,G,h=>by replace h:=zaa h;let⟨⟨x,e1⟩,q,h⟩:=h;let⟨p2,p,rfl⟩:=zaF q;replace h:=qL (qL qa1) h;let⟨⟨⟨hx,h1⟩,h2⟩,h3⟩:=h;cases za9 hx;have he:=zae a G h3;exact⟨λz=>(by cases z),λz=>(by exact nB z),λtg _=>znP (zaX G h1) he h2,λa z=>by cases z;exact⟨e1,p2,p,rfl,zaX G h1,he,h2⟩⟩| .rng2 a b,N,sc,e,X,G,h=>by replace h:=zaa h;let⟨⟨x,args⟩,q,h⟩:=h;let⟨p2,p,rfl⟩:=zax q;replace h:=zaa h;let⟨⟨e1,e2⟩,q2,h⟩:=h;cases two_inv q2;replace h:=qL (qL (qL (qL qa1))) h;let⟨⟨⟨⟨⟨hx,h1⟩,h2⟩,h3⟩,h4⟩,h5⟩:=h;cases za9 hx;exact⟨λz=>(by cases z),λz=>(by exact nB z),λtg _=>znO (zaX G h1) (zae a G h4) (zae b G h5) h2 h3,λa z=>by cases z⟩| .enum a,N,sc,e,X,G,h=>by replace h:=zaa h;let⟨⟨x,e1⟩,q,h⟩:=h;let⟨p2,p,rfl⟩:=zaF q;replace h:=qL (qL qa1) h;let⟨⟨⟨hx,h1⟩,h2⟩,h3⟩:=h;cases za9 hx;refine⟨λz=>(by cases z),λz=>(by exact nB z),λtg ht=>?_,λa z=>by cases z⟩;cases tg with|Tuple es j pt=>exact znQ (zaX G h1) (zae a G h3) h2|_=>exact nB ht
 |.comp nt js g it c e,N,sc,ex,X,G,h=>by
  replace h:=zaa h;let⟨⟨elt,gs,scope,p⟩,q,h⟩:=h;cases zeN q;replace h:=zaa h;let⟨⟨tg,iter,ifs,asy⟩,q2,h⟩:=h;cases zaH q2;rw[Ε,Ε,Ε,Ε,Ε,Ε,Ε,Ε,decide_eq_true_eq,decide_eq_true_eq,decide_eq_true_eq]at h;let⟨⟨⟨⟨⟨⟨⟨⟨h1,h2⟩,h3⟩,h4⟩,h5⟩,h6⟩,h7⟩,h8⟩,h9⟩:=h;dsimp only at h1 h2 h3 h4 h5 h6 h7 h8 h9;replace h3:=qa1 h3;subst h1 h5;have ok:=ze9 G h2;have G':=zgO G (tgs:=zbc tg) ok h6;have ht:∀cl C fp s H pn,PTs (zaG X (capN X.N (zbc tg) js) scope cl C fp s H pn) ifs (tT X.K cf c):=λcl C fp s H pn=>by split at h8;rename_i ce;cases isEmpty_iff.mp ce;exact zg7 (X:=zaG X (capN X.N (zbc tg) js) scope cl C fp s H pn) h8;replace h8:=zaa h8;let⟨t,q3,h8⟩:=h8;cases zaH q3;exact zjD (zaQ c (G' cl C fp s H pn) h8).1
  have hp:PE X (.ListComp elt [⟨tg,iter,ifs,0⟩] scope p) (tLt X.K cf (.comp (zbc tg).length js g it c e)):=PE.imp (zlU X.env.scope (zbc tg) js G.calm rfl ok ((zbP it G h4).2.2.1 tg h3.2) (λcl C fp s H pn=>zle (G' cl C fp s H pn) h7) ht (λcl C fp s H pn=>zae e (G' cl C fp s H pn) h9) (ze6 h3.1 X.env)) λσ H Qv q=>zhX G.tab.frm q;exact⟨λ_=>(PE.ofT hp),λ_=>hp,λtg _=>zmR (PE.ofT hp) zo6,λa z=>by cases z⟩
end
end
end R
end
namespace R
open PySem PySem.Spec PyProof.Rows L2
variable[Mks]
section
variable{T:Tab}{cf:CF}{k:Nat}
def znJ(G:Gd T cf k N sc X)(L:N[i]?=Φ x)(A:zb5 sc x=Γ)(h:chkE T (.mkL l) N sc (.ListComp o gs scope M)=Γ)(hr:PSs X rest (tS X cf r)):
  PSs X (.Assign [.Name x p] (.ListComp o gs scope M) pos::rest) (tS X cf (.asg i (.mkL l) r)):=by
 have B:∃b,swapsWith (.ListComp o gs scope M) (Φ (.Name x p)) pos.line X.env=pure b:=⟨_,rfl⟩;let⟨b,B⟩:=B;cases b with
 |false=>refine PSs.imp (zaC (zel (by rw[G.nm];exact G.nd) (by rw[G.nm];exact L) (G.lc A).1 (zae (.mkL l) G h) B (G.lc A).2) hr) λE σ H z=>?_;let⟨δ,ι,S,Q,hs,hh,w,lf⟩:=z;change W (Out.bind _ _) _ at w;simp![zab] at w;exact tE.run hs hh w λd v O H1 S1 x1 U Y r1 w1=>⟨δ.set i (Φ d),O,S1,Q,U.set r1 i,Y,w1,lf.up x1⟩| true=>
  replace h:ite (zgM l=Γ) _ _=Γ:=h;split at h;rename_i c0;replace h:=((Ε _ _).mp h).2;cases l with
  |comp nt u g it c e=>
   replace h:=zaa h;let⟨⟨elt',gs',I,p'⟩,q,h⟩:=h;cases zeN q;replace h:=zaa h;let⟨⟨m,iter,ifs,asy⟩,q2,h⟩:=h;cases zaH q2;rw[Ε,Ε,Ε,Ε,Ε,Ε,Ε,Ε,decide_eq_true_eq,decide_eq_true_eq,decide_eq_true_eq]at h;let⟨⟨⟨⟨⟨⟨⟨⟨h1,h2⟩,J⟩,h4⟩,h5⟩,h6⟩,h7⟩,n⟩,h9⟩:=h;replace J:=qa1 J;subst h1 h5;have ok:=ze9 G h2;have G':=zgO G ok h6;have ht:∀a C f s H j,PTs (zaG X (capN X.N (zbc m) u) scope a C f s H j) ifs (tT X.K cf c):=λa C f s H j=>by split at n;rename_i ce;cases isEmpty_iff.mp ce;exact zg7 n;replace n:=zaa n;let⟨t,q3,n⟩:=n;cases zaH q3;exact zjD (zaQ c (G' a C f s H j) n).1
   have he:∀a C f s H j,PE (zaG X (capN X.N (zbc m) u) scope a C f s H j) o (tE X.K cf e):=λa C f s H j=>zae e (G' a C f s H j) h9;have hg:∀a C f s H j,PG (zaG X (capN X.N (zbc m) u) scope a C f s H j) m (tG X.K g):=λa C f s H j=>zle (G' a C f s H j) h7;have hps:=zov X.env.scope (zbc m) u (by rw[G.nm];exact G.nd) (by rw[G.nm];exact L) (G.lc A).1 G.calm rfl ok ((zbP it G h4).2.2.1 m J.2) hg ht he B (ze6 J.1 X.env) (G.lc A).2;exact znL G L ⟨_,hps,λσ H Qv q=>zhX G.tab.frm (zjW q)⟩ hr
  |_=>exact nB c0
  exact nB h
def zpy(h:za8 v=Δ)(a:chkE T e N c v=Γ):∃l b gs scope p,v=.ListComp b gs scope p/\e=.mkL l:=by
 cases v with
 |ListComp b gs scope p=>cases e with|mkL l=>exact⟨l,b,gs,scope,p,rfl,rfl⟩|_=>exact absurd a Κ
 |SetComp=>cases e<;>(first|exact absurd a Κ|exact absurd (h.symm.trans a) Κ|(rename_i l;cases l<;>exact absurd a Κ))|DictComp=>cases e<;>(first|exact absurd a Κ|exact absurd (h.symm.trans a) Κ|(rename_i l;cases l<;>exact absurd a Κ))|_=>cases h
def zcQ:∀(x:XE){N:List Str}{d:Scope}{e:Expr}{X:Cx},Gd T cf k N d X->chkX T x N d e=Γ->PE X e (tX X cf x)
 |.val a,N,d,e,X,G,h=>zq7 (zae a G h)| .call f u,N,d,e,X,G,h=>by
  replace h:=zaa h;let⟨⟨x,args⟩,q,h⟩:=h;let⟨I,p,rfl⟩:=zax q;replace h:=qL (qL (qL (qL qa1))) h;let⟨⟨⟨⟨⟨g,j⟩,l⟩,n⟩,r⟩,s⟩:=h;let⟨J,L,z,M⟩:=zeu n;cases args with
  |nil=>exact nB r
  |cons a v=>exact zor G l z g (zaW j).1 (zaE u G s).1 (zay s)
 |.meth m A o u,N,d,e,X,G,h=>by
  replace h:=zaa h;let⟨⟨B,C,E,args,H⟩,q,h⟩:=h;cases za0 q;simp![Ε,decide_eq_true_eq]at h;let⟨⟨⟨⟨⟨⟨⟨rfl,g⟩,j⟩,l⟩,n⟩,r⟩,s⟩,w⟩:=h;cases args with
  |nil=>exact nB r
  |cons a v=>exact zoq G g (zae o G s) (zaE u G w).1 (zay w) j l n
 |.ix a b,N,d,e,X,G,h=>by replace h:=zaa h;let⟨⟨x,i⟩,q,h⟩:=h;let⟨p,rfl⟩:=zdt q;replace h:=qL qa1 h;exact ztu (zae a G h.1.2) (zcQ b G h.2) h.1.1| .on o m A,N,d,e,X,G,h=>by replace h:=zaa h;let⟨⟨B,C,E,args,H⟩,q,h⟩:=h;cases za0 q;replace h:=qL (qL (qL (qL qd1))) h;let⟨⟨⟨⟨⟨rfl,g⟩,j⟩,l⟩,n⟩,r⟩:=h;cases args with|nil=>exact ztt G g (zcQ o G r) j l|cons a v=>exact nB n
 |.ite c a b,N,d,e,X,G,h=>by replace h:=zaa h;let⟨⟨t,x,y⟩,q,h⟩:=h;let⟨p,rfl⟩:=zhj q;replace h:=qL qa1 h;exact zq8 (zaQ c G h.1.1).1 (zcQ a G h.1.2) (zcQ b G h.2)
def zfb:∀(b:TrB){N:List Str}{u:Scope}{st:List Stmt}{X:Cx},Gd T cf k N u X->X.stack=X.env::X.outer/\X.env.frame=Φ X.env.locals->chkB T b N u st=Γ->∃s,st=[s]/\PS X s (tB X cf b)
 |.asgX i x,N,u,st,X,G,F,h=>by replace h:=zaa h;let⟨s,d,h⟩:=h;cases zaH d;replace h:=zaa h;let⟨⟨Y,v,pos⟩,n,h⟩:=h;cases zbf n;replace h:=zaa h;let⟨y,I,h⟩:=h;let⟨py,w⟩:=zaD I;subst w;replace h:=qL (qL qb1) h;let⟨⟨⟨o,r⟩,l⟩,t⟩:=h;exact⟨_,rfl,zoc G o r (zcQ x G t) l⟩| .run f z,N,u,st,X,G,F,h=>by
  replace h:=zaa h;let⟨s,d,h⟩:=h;cases zaH d;replace h:=zaa h;let⟨v,n,h⟩:=h;let⟨p,rfl⟩:=zdu n;replace h:=zaa h;let⟨⟨x,args⟩,q,h⟩:=h;let⟨p2,p,rfl⟩:=zax q;replace h:=qL (qL (qL (qL qa1))) h;let⟨⟨⟨⟨⟨o,r⟩,l⟩,t⟩,E⟩,m⟩:=h;let⟨ps,nd,J,hj⟩:=zeu t;cases args with
  |nil=>exact nB E
  |cons a as=>exact⟨_,rfl,zqS G l J o (zaW r).1 (zaE z G m).1 (zay m)⟩
 |.asg i f z,N,u,st,X,G,F,h=>by
  replace h:=zaa h;let⟨s,d,h⟩:=h;cases zaH d;replace h:=zaa h;let⟨⟨Y,v,pos⟩,n,h⟩:=h;cases zbf n;replace h:=zaa h;let⟨y,I,h⟩:=h;let⟨py,w⟩:=zaD I;subst w;replace h:=zaa h;let⟨⟨x,args⟩,q,h⟩:=h;let⟨p2,p,L⟩:=zax q;subst L;replace h:=qL (qL (qL (qL (qL (qL qb1))))) h;let⟨⟨⟨⟨⟨⟨⟨h8,h9⟩,o⟩,r⟩,l⟩,t⟩,E⟩,m⟩:=h;let⟨ps,nd,J,hj⟩:=zeu t;cases args with
  |nil=>exact nB E
  |cons a as=>exact⟨_,rfl,zqU G h8 h9 l J o (zaW r).1 (zaE z G m).1 (zay m)⟩
 |.ite c a b,N,u,st,X,G,F,h=>by replace h:=zaa h;let⟨s,d,h⟩:=h;cases zaH d;replace h:=zaa h;let⟨⟨e,A,B⟩,q,h⟩:=h;let⟨p,rfl⟩:=zfu q;replace h:=qL qa1 h;let⟨sa,ea,ha⟩:=zfb a G F h.1.2;let⟨sb,eb,hb⟩:=zfb b G F h.2;subst ea eb;exact⟨_,rfl,zqT (zaQ c G h.1.1).1 (zjf ha) (zjf hb)⟩| .mk c f x j z,N,u,st,X,G,F,h=>by
  replace h:=zaa h;let⟨s,d,h⟩:=h;cases zaH d;replace h:=zaa h;let⟨v,n,h⟩:=h;let⟨p,rfl⟩:=zdu n;replace h:=zaa h;let⟨⟨x',args⟩,q,h⟩:=h;let⟨p2,p,rfl⟩:=zax q;simp![Ε,decide_eq_true_eq]at h;let⟨⟨⟨⟨⟨⟨rfl,o⟩,r⟩,l⟩,t⟩,E⟩,m⟩:=h;cases args with
  |nil=>exact nB E
  |cons e as=>exact⟨_,rfl,ztn G t l o (zaW r).1 (zaE z G m).1 (zay m)⟩
 |.comp i nt js g it f z,N,u,st,X,G,F,h=>by
  replace h:=zaa h;let⟨s,d,h⟩:=h;cases zaH d;replace h:=zaa h;let⟨⟨tgt,v,pos⟩,n,h⟩:=h;cases zbf n;replace h:=zaa h;let⟨y,I,h⟩:=h;let⟨py,w⟩:=zaD I;subst w;replace h:=zaa h;let⟨⟨elt,gs,scope,p3⟩,q3,h⟩:=h;have L:=zeN q3;dsimp only at L;subst L;replace h:=zaa h;let⟨⟨Y,iter,ifs,asy⟩,q4,h⟩:=h;cases zaH q4;replace h:=zaa h;let⟨⟨x,args⟩,q5,h⟩:=h;let⟨p2,p,he⟩:=zax q5;dsimp only at he;subst he;simp![Ε,decide_eq_true_eq,beq_iff_eq]at h;let⟨⟨⟨⟨⟨⟨⟨⟨⟨⟨⟨⟨⟨⟨⟨o,r⟩,l⟩,t⟩,E⟩,m⟩,h7⟩,h8⟩,h9⟩,h10⟩,h11⟩,h12⟩,h13⟩,h14⟩,h15⟩,M⟩:=h;subst o E;cases isEmpty_iff.mp h8;have ok:=ze9 G r;have G':=zgO G (tgs:=zbc Y) ok m;let⟨ps,nd,J,hj⟩:=zeu h14;cases args with
  |nil=>exact nB h15
  |cons e as=>exact⟨_,rfl,zob G F.1 F.2 h9 h10 h13 J (zaW h12).1 ok ((zbP it G t).2.2.1 Y l.2) (ze6 l.1 X.env) (λO C Q s H U=>(G' O C Q s H U).gl h11) (λO C Q s H U=>zle (G' O C Q s H U) h7) (λO C Q s H U=>(zaE z (G' O C Q s H U) M).1) (zay M)⟩
def zaL:∀(cs:CS){N:List Str}{A:Scope}{st:List Stmt}{X:Cx},Gd T cf k N A X->X.stack=X.env::X.outer/\X.env.frame=Φ X.env.locals->chkS T cs N A st=Γ->PSs X st (tS X cf cs)
 |.nil,N,A,st,X,G,F,h=>by obtain rfl:=isEmpty_iff.mp h;exact zqv|.stop,N,A,st,X,G,F,h=>λpins s σ H E I z'=>(by let⟨δ,ι,S,Q,hs,hh,w,l⟩:=z';exact (w.elim))| .asg i e r,N,A,st,X,G,F,h=>by
  cases st with
  |nil=>exact nB h
  |cons s d=>replace h:=zaa h;let⟨⟨Y,v,pos⟩,q,h⟩:=h;cases zbf q;replace h:=zaa h;let⟨x,U,h⟩:=h;let⟨p,B⟩:=zaD U;subst B;replace h:=qL (qL qb1) h;let⟨⟨⟨m,J⟩,C⟩,L⟩:=h;have hr:=zaL r G F L;cases hn:za8 v with|true=>exact zqy G m J (zae e G C) hn hr| false=>let⟨l,elt,gs,scope,p2,rfl,rfl⟩:=zpy hn C;exact znJ G m J C hr
 |.asgT g e r,N,A,st,X,G,F,h=>by
  cases st with
  |nil=>exact nB h
  |cons s d=>replace h:=zaa h;let⟨⟨Y,v,pos⟩,q,h⟩:=h;cases zbf q;replace h:=zaa h;let⟨es,U,h⟩:=h;let⟨j,p,B⟩:=zds U;subst B;simp![Ε,decide_eq_true_eq]at h;let⟨⟨⟨⟨m,J⟩,C⟩,L⟩,O⟩:=h;refine znK G C J (zae e G L) ?_ (zaL r G F O);rw[ϙ]at m;rcases m with m|m;let⟨x,B⟩:=Option.isSome_iff_exists.mp m;let⟨p2,hv⟩:=zaD B;exact .inl ⟨x,p2,hv⟩;let⟨⟨x,as⟩,B⟩:=Option.isSome_iff_exists.mp m;let⟨p2,p3,hv⟩:=zax B;exact .inr ⟨_,_,_,_,hv⟩
 |.setF a f e r,N,A,st,X,G,F,h=>by
  cases st with
  |nil=>exact nB h
  |cons s d=>replace h:=zaa h;let⟨⟨Y,v,pos⟩,q,h⟩:=h;cases zbf q;replace h:=zaa h;let⟨⟨o,f',p⟩,U,h⟩:=h;have B:=zbq U;dsimp only at B;subst B;replace h:=qL (qL (qL (qL qd1))) h;let⟨⟨⟨⟨⟨m,J⟩,C⟩,L⟩,O⟩,h6⟩:=h;subst m;exact znG G J (zae a G L) (zae e G O) C (zaL r G F h6)
 |.setIx a b e r,N,A,st,X,G,F,h=>by
  cases st with
  |nil=>exact nB h
  |cons s d=>replace h:=zaa h;let⟨⟨Y,v,pos⟩,q,h⟩:=h;cases zbf q;replace h:=zaa h;let⟨⟨o,i⟩,U,h⟩:=h;let⟨p,B⟩:=zdt U;dsimp only at B;subst B;replace h:=qL (qL (qL qa1)) h;let⟨⟨⟨⟨m,J⟩,C⟩,L⟩,O⟩:=h;exact zlf G (zae a G J) (zae b G C) (zae e G L) m (zaL r G F O)
 |.ifS c t u r,N,A,st,X,G,F,h=>by
  cases st with
  |nil=>exact nB h
  |cons s d=>replace h:=zaa h;let⟨⟨e,a,b⟩,q,h⟩:=h;let⟨p,rfl⟩:=zfu q;replace h:=qL (qL qa1) h;exact zth (zaQ c G h.1.1.1).1 (zaL t G F h.1.1.2) (zaL u G F h.1.2) (zaL r G F h.2)
 |.forS g l b r,N,A,st,X,G,F,h=>by
  cases st with
  |nil=>exact nB h
  |cons s d=>replace h:=zaa h;let⟨⟨Y,it,body⟩,q,h⟩:=h;let⟨p,rfl⟩:=zjw q;simp![Ε]at h;let⟨⟨⟨⟨m,J⟩,C⟩,L⟩,O⟩:=h;exact zqw G ((zbP l G J).2.2.1 Y O.2) (zle G O.1) (zaL b G F C) m (zaL r G F L)
 |.ret e r,N,A,st,X,G,F,h=>by
  cases st with
  |nil=>exact nB h
  |cons s d=>replace h:=zaa h;let⟨v,q,h⟩:=h;let⟨p,rfl⟩:=zft q;simp![Ε]at h;exact zqu (zae e G h.1) (zaL r G F h.2)
 |.retX x r,N,A,st,X,G,F,h=>by
  cases st with
  |nil=>exact nB h
  |cons s d=>replace h:=zaa h;let⟨v,q,h⟩:=h;let⟨p,rfl⟩:=zft q;simp![Ε]at h;exact znH (zcQ x G h.1) (zaL r G F h.2)
 |.expr e r,N,A,st,X,G,F,h=>by
  cases st with
  |nil=>exact nB h
  |cons s d=>replace h:=zaa h;let⟨v,q,h⟩:=h;let⟨p,rfl⟩:=zdu q;replace h:=qL qa1 h;exact znI (zae e G h.1.2) h.1.1 (zaL r G F h.2)
 |.rais c x f a,N,A,st,X,G,F,h=>by
  cases st with
  |nil=>exact nB h
  |cons s d=>replace h:=zaa h;let⟨⟨x',arg⟩,q,h⟩:=h;let⟨np,cp,p,rfl⟩:=zgr q;replace h:=qL (qL (qL (qL qd1))) h;let⟨⟨⟨⟨⟨rfl,m⟩,J⟩,C⟩,L⟩,O⟩:=h;exact zlg G C m (zaW J).1 (zae a G O) L
 |.blk b r,N,A,st,X,G,F,h=>by
  cases st with
  |nil=>exact nB h
  |cons s d=>replace h:=(Ε _ _).mp h;let⟨s',e,hb⟩:=zfb b G F h.1;cases e;exact zqx hb (zaL r G F h.2)
 |.tryS b x ie ix r,N,A,st,X,G,F,h=>by
  cases st with
  |nil=>exact nB h
  |cons s d=>replace h:=zaa h;let⟨⟨body,xR,n,y⟩,q,h⟩:=h;let⟨np,p1,p2,p3,hp,p,rfl⟩:=zjs q;simp![Ε,decide_eq_true_eq,beq_iff_eq]at h;let⟨⟨⟨⟨⟨⟨⟨⟨⟨⟨⟨rfl,m⟩,J⟩,C⟩,L⟩,O⟩,h6⟩,h7⟩,h8⟩,h9⟩,h10⟩,h11⟩:=h;exact zqt G (λpn E hE=>by let⟨s,e,z⟩:=zfb b (X:=pnC X pn E) ⟨G.nm,G.nd,G.loc,G.cell,G.free,G.glob,G.fn,G.calm,hE,G.room',G.tab,λz=>let ⟨a,c,M⟩:=G.lam z;⟨a,c,⟨M.1,M.2,M.3,M.4,M.5⟩⟩⟩ F h10;subst e;exact zjf z) F.1 F.2 C m (zaW J).1 L O h6 h7 (zaW h8).1 (zaW h8).2.1 h9 (zaL r G F h11)
def RS.start{K}(r:RVs K ι H ds vs)(c:ds.length=F.np)(f:F.nn=N.length):RS K ι H (zar F ds) (L2.start N vs):=by
 have a:=r.length;refine⟨by simp[zar,L2.start,a,c,f],λi d e=>?_⟩;unfold zar at e;unfold L2.start;by_cases b:i<ds.length;rw[getElem?_append_left (by simpa using b),getElem?_map]at e;rw[getElem?_append_left (by simpa[a]using b),getElem?_map];cases z:ds[i]? with
 |none=>rw[z]at e;exact nS e
 |some j=>rw[z]at e;simp![Option.map_some,Option.some.injEq]at e;subst e;let⟨v,g,h⟩:=r.get z;exact⟨v,by rw[g];rfl,h⟩
 . rw[getElem?_append_right (by simpa using b),List.getElem?_replicate]at e;split at e<;>cases e
abbrev ChkD(T:Tab)(b:CS)(N:List Str)(a:Scope)(st:List Stmt):Prop:=chkS T b N a st=Γ/\N≠T.lam
structure DefOk(K:PySem.W.Frag)(mg:Str->Option Ξ)(T:Tab)(Pg:List Fn)(fi:Nat)(x:Str)(ps:List Str)(nd:Nat):Prop where
 ex:∃(F:Fn) (qual:Str) (st:Stmt) (dV:Ξ) (f:Addr) (fd:FuncData) (N:List Str),Pg[fi]?=Φ F/\F.prim=Ψ/\FunV K x qual st dV f fd/\FnScope N ps (zac st)/\ChkD T F.body N (zac st) (zal st)/\F.np=ps.length/\F.nn=N.length/\
  mg x=Φ (.ref f)/\∀j,j<=nd->Binds K fd ps (List.replicate j Ξ.none)
def zfW(a)(n):CFok (callF a n):=by
 induction n with
 |zero=>exact λ_ _ _=>.bad| succ n b=>
  intro f c S;unfold callF
  repeat' first
  |exact .bad
  |exact .ok
  |exact .er (.refl _)
  |refine Fx.bind (.ne (frS b _ _ _)) λ_ _=>?_
  |split
variable{P:Ο}{w:ϋ}{K:PySem.W.Frag}{mg:Str->Option Ξ}{base:Heap}{Pg:List Fn}
def zeK{a:List Str}(b:Pg[d]?=Φ F)(e:F.np=a.length)(h:spF K (callF Pg n) d vs H Q E):vs.length=a.length:=by let⟨f,S,g,r,i,w⟩:=h;rw[r.length];cases n with|zero=>exact w.elim| succ n=>simp![callF,b]at w;split at w;rename_i c;rw[c,e];exact w.elim
def zeJ{a:List Str}(b:Pg[d]?=Φ F)(e:F.np=a.length)(h:spX K (callF Pg n) d vs H Q E):vs.length=a.length:=by let⟨g,S,f,r,i,w⟩:=h;rw[r.length];cases n with|zero=>exact w.elim| succ n=>simp![callF,b]at w;by_cases c:f.length=F.np;rw[c,e];rw[if_neg c]at w;exact w.elim
def zgR{st}(tab:TabOk T (callF Pg n) m P w K mg base)(FV:FunV K x l st dV f fd)(L:Pg[fi]?=Φ F)(S:FnScope N M (zac st))(O:ChkD T F.body N (zac st) (zal st))(hp:F.np=M.length)(hn:F.nn=N.length)(hq:F.prim=Ψ:=by rfl):
  FnOk P w K mg base (CXe P w) (m+2) f fd M (spX K (callF Pg (n+1)) fi):=by
 let⟨oc,od,kV,doc,pm,an,o,ct,osl,rfl,lk,p⟩:=FV.ex;refine zpm lk p S (λvs H Q E h=>zeJ L hp h) λA g s H vs Q E hr h=>?_;let⟨ι,U,q,r,hh,b⟩:=h;have G:Gd T (callF Pg n) m N (zac st) (cxOf (CXe P w) P w K mg base N l (zac st) f o A g s H E):=⟨rfl,S.nd,λx e=>e,λx e=>e,λx e=>.inl e,λx e=>e,.inl λ_=>rfl,rfl,PassesOwn.leaving,hr,tab,λz=>absurd z O.2⟩;refine⟨_,zaL F.body G ⟨rfl,rfl⟩ O.1,?_⟩;simp![callF,L,hq]at b;by_cases c:q.length=F.np;rw[if_pos c]at b;cases ex:exS (callF Pg n) F.body (zar F q) U with
 |ok t Y=>rw[ex]at b;refine⟨zar F q,ι,U,λu T2=>u=t/\T2=Y,RS.start r c hn,hh,by rw[ex];exact⟨rfl,rfl⟩,?_⟩;rintro u i y S' B j ⟨rfl,rfl⟩;cases u with|nx δ'=>exact λC hs'=>b .non y i B rfl j|rt d=>exact λv J=>b v y i B J j|ex d=>exact λa C pins s' J I t=>zj9 I t (b a y i B J j)
 |err d Y=>rw[ex]at b;exact b.elim|bad=>rw[ex]at b;exact b.elim
 rw[if_neg c]at b;exact b.elim
def zkA(F:FnOk P w K mg base (CXe P w) k f j l (spX K cf i)):FnOk P w K mg base CX0 k f j l (spF K cf i):=by
 have conv:∀c H Q E,spF K cf i c H Q E->spX K cf i c H Q (λ_ _ _=>False):=λc H Q E y=>by let⟨m,S,n,r,o,p⟩:=y;let⟨d,C,e,q⟩:=zfj p;exact⟨m,S,n,r,o,by rw[e];exact q⟩
 refine⟨λc H Q E h=>F.len _ _ _ _ (conv c H Q E h),λA g s H args t c Q E u x b v h=>ϕ (F.run A g s H args t c Q _ u x b v (conv c H Q E h)) λr G q=>?_⟩;cases r with|error e=>let⟨a,I,_,_,_,_,_,_,z⟩:=q;exact z.elim|ok B=>cases B<;>exact q
def zkN{st}(tab:TabOk T (callF Pg n) m P w K mg base)(c:FunV K x a st o f d)(e:Pg[g]?=Φ F)(S:FnScope N b (zac st))(h:ChkD T F.body N (zac st) (zal st))(i:F.np=b.length)(j:F.nn=N.length)(l:F.prim=Ψ:=by rfl):
 FnOk P w K mg base CX0 (m+2) f d b (spF K (callF Pg (n+1)) g):=zkA (zgR tab c e S h i j l)
structure MOk(K:PySem.W.Frag)(T:Tab)(Pg:List Fn)(fi j:Nat)(Ex:Addr->Prop):Prop where
 ex:∃(F:Fn) (x qual:Str) (st:Stmt) (dV:Ξ) (f:Addr) (fd:FuncData) (N ps:List Str),Pg[fi]?=Φ F/\F.prim=Ψ/\FunV K x qual st dV f fd/\FnScope N ps (zac st)/\ChkD T F.body N (zac st) (zal st)/\F.np=ps.length/\F.nn=N.length/\
  Binds K fd ps (List.replicate j Ξ.none)/\Ex f
def zeW(z:MOk K T Pg i j l):∃f a c,l f/\keepIn K (.ref f)=Γ/\Binds K a c (List.replicate j Ξ.none)/\FnOk P w K mg base CX0 1 f a c (spF K (callF Pg 0) i):=by let⟨F,x,g,st,t,f,a,N,c,m,u,n,S,y,o,B,p,e⟩:=z.ex;refine⟨f,a,c,e,n.kp,p,⟨λq H Q E h=>zeK m o h,λA d s H args C q Q E G I b v h=>?_⟩⟩;let⟨J,S,L,r,M,w⟩:=h;exact w.elim
def zeX(tab:TabOk T (callF Pg n) m P w K mg base)(z:MOk K T Pg g j h):∃f a b,h f/\keepIn K (.ref f)=Γ/\Binds K a b (List.replicate j Ξ.none)/\FnOk P w K mg base CX0 (m+2) f a b (spF K (callF Pg (n+1)) g):=by let⟨F,x,c,st,s,f,a,N,b,i,l,d,S,o,p,q,r,e⟩:=z.ex;exact⟨f,a,b,e,d.kp,r,zkN tab d i S o p q l⟩
def zfG(z:MOk K T Pg i j l):∃f a c,l f/\Binds K a c (List.replicate j Ξ.none)/\FnOk P w K mg base (CXe P w) 1 f a c (spX K (callF Pg 0) i):=by let⟨F,x,g,st,q,f,a,N,c,m,t,u,S,y,n,B,o,e⟩:=z.ex;refine⟨f,a,c,e,o,⟨λp H Q E h=>zeJ m n h,λA d s H args C p Q E G I b v h=>?_⟩⟩;let⟨J,S,L,r,M,w⟩:=h;exact w.elim
def zfH(tab:TabOk T (callF Pg n) m P w K mg base)(z:MOk K T Pg d j g):∃f a b,g f/\Binds K a b (List.replicate j Ξ.none)/\FnOk P w K mg base (CXe P w) (m+2) f a b (spX K (callF Pg (n+1)) d):=by let⟨F,x,c,st,s,f,a,N,b,h,i,l,S,o,p,q,r,e⟩:=z.ex;exact⟨f,a,b,e,r,zgR tab l h S o p q i⟩
abbrev ExM(K:PySem.W.Frag)(c:Nat)(m:Str)(f:Addr):Prop:=∃C,Mks.cl[c]?=Φ C/\Cls K C/\Meth K C m f
abbrev ExI(K:PySem.W.Frag)(c:Nat)(f:Addr):Prop:=∃C,Mks.cl[c]?=Φ C/\Mk K C f
abbrev ExC(K:PySem.W.Frag)(mg:Str->Option Ξ)(x m:Str)(f:Addr):Prop:=∃(C:Addr) (a:Ξ),mg x=Φ (.ref C)/\specialIn K (.ref C) "__getattribute__"=Φ (Φ (.builtin "type.__getattribute__"))/\readsIn K C a=Γ/\findCls K (.ref C) a m=Φ (.val (.ref f))
structure ClsOk(T:Tab)(K:PySem.W.Frag)(mg:Str->Option Ξ)(Pg:List Fn):Prop where
 cls:∀(c:Nat)(x:Str),T.cls[c]?=Φ x->∃C,Mks.cl[c]?=Φ C/\Cls K C/\mg x=Φ (.ref C)/\∀f,T.flds.contains f=Γ->NoAttr K C f
 mth:∀(c:Nat)(m:Str)(fi:Nat),T.mts.contains (c,m,fi)=Γ->MOk K T Pg fi 0 (ExM K c m)
 ini:∀(c fi j:Nat),T.inits.contains (c,fi,j)=Γ->MOk K T Pg fi j (ExI K c)
 cmd:∀(x m:Str)(fi:Nat),T.cms.contains (x,m,fi)=Γ->MOk K T Pg fi 0 (ExC K mg x m)
 cln:Mks.cl.length<=T.cls.length
 isa:∀(x:Str)(cs:List Nat),T.isas.contains (x,cs)=Γ->∃D,mg x=Φ (.ref D)/\∀c C,Mks.cl[c]?=Φ C->IsaOk K C/\kitOne K (.ref C) (.ref D)=Φ (cs.contains c)
def zkw(h:∃f a b,ExM K c m f/\keepIn K (.ref f)=Γ/\Binds K a b []/\FnOk P w K mg base CX0 k f a b (spF K cf d)):HasM P w K mg base k c m (spF K cf d):=by let⟨f,a,b,⟨C,e,g,i⟩,_,j,l⟩:=h;exact⟨C,f,a,b,e,g,i,l,j⟩
def zkx(h:∃f a b,ExI K c f/\keepIn K (.ref f)=Γ/\Binds K a b (List.replicate j Ξ.none)/\FnOk P w K mg base CX0 k f a b (spF K cf d)):HasI P w K mg base k c j (spF K cf d):=by let⟨f,a,b,⟨C,e,g⟩,_,i,l⟩:=h;exact⟨C,f,a,b,e,g,l,i⟩
def zhL(h:∃f a b,ExI K c f/\Binds K a b (List.replicate j Ξ.none)/\FnOk P w K mg base (CXe P w) k f a b (spX K cf d)):HasIX P w K mg base k c j (spX K cf d):=by let⟨f,a,b,⟨C,e,g⟩,i,l⟩:=h;exact⟨C,f,a,b,e,g,l,i⟩
def zhK(h:∃f a b,ExM K c m f/\Binds K a b (List.replicate 0 Ξ.none)/\FnOk P w K mg base (CXe P w) k f a b (spX K cf d)):HasMX P w K mg base k c m (spX K cf d):=by let⟨f,a,b,⟨C,e,g,i⟩,j,l⟩:=h;exact⟨C,f,a,b,e,g,i,l,j⟩
def zky(h:∃f a b,ExC K mg x m f/\keepIn K (.ref f)=Γ/\Binds K a b []/\FnOk P w K mg base CX0 k f a b (spF K cf c)):HasC P w K mg base k x m (spF K cf c):=by let⟨f,a,b,⟨C,d,e,g,i,j⟩,l,n,o⟩:=h;exact⟨C,f,a,b,d,e,g,i,j,l,o,n⟩
structure PrimOk(P:Ο)(w:ϋ)(K:PySem.W.Frag)(mg:Str->Option Ξ)(base:Heap)(T:Tab)(Pg:List Fn)(fi:Nat)(x:Str)(ps:List Str)(nd:Nat):Prop where
 ex:∃(F:Fn) (p:Prim) (f:Addr) (fd:FuncData),Pg[fi]?=Φ F/\F.prim=Φ p/\F.np=ps.length/\mg x=Φ (.ref f)/\keepIn K (.ref f)=Γ/\(∀j,j<=nd->Binds K fd ps (List.replicate j Ξ.none))/\
  ∀n,3<=n->TabOk T (callF Pg n) (2*n+1) P w K mg base->FnOk P w K mg base CX0 (2*n+3) f fd ps (spF K (callF Pg (n+1)) fi)
structure XSOk(T:Tab)(K:PySem.W.Frag)(mg:Str->Option Ξ)(Pg:List Fn):Prop where
 cl:∀(c:Nat)(x f:Str),T.xcs.contains (c,x,f)=Γ->∃(C fI:Addr) (qual:Str) (st:Stmt) (fd:FuncData) (xR y:Str),Mks.xc[c]?=Φ C/\mg x=Φ (.ref C)/\keepIn K (.ref C)=Γ/\Xc K C fI f/\FunV K "__init__" qual st .none fI fd/\XSt st xR y f/\XUp K mg xR/\Binds K fd ["self",y] []
 fl:∀f,T.xflds.contains f=Γ->∀(c:Nat) C,Mks.xc[c]?=Φ C->XGet K C/\NoAttr K C f
 is:∀(x:Str)(cs:List Nat),T.xisas.contains (x,cs)=Γ->∃D,mg x=Φ (.ref D)/\∀(c:Nat) C,Mks.xc[c]?=Φ C->XGet K C/\IsaOk K C/\kitOne K (.ref C) (.ref D)=Φ (cs.contains c)
 ib:∀(x:Str)(cs:List Nat),T.xisbs.contains (x,cs)=Γ->mg x=Ψ/\x≠"__name__"/\∃t,bootBuiltins x=Φ (.type t)/\∀(c:Nat) C,Mks.xc[c]?=Φ C->XGet K C/\IsaOk K C/\kitOne K (.ref C) (.type t)=Φ (cs.contains c)
 fn:∀(f:Nat)(x:Str)(ps:List Str)(nd:Nat),T.xfns.contains f=Γ->T.fns[f]?=Φ (x,ps,nd)->DefOk K mg T Pg f x ps nd
 tr:∀x,T.xtrs.contains x=Γ->∃CR,mg x=Φ (.ref CR)/\∀(c:Nat) C,Mks.xc[c]?=Φ C->PySem.W.exmOne K (.ref C) (.ref CR)=Φ Γ
def XSOk.tab(a:XSOk T K mg Pg)(fn:∀(f:Nat)(x:Str)(d:List Str)(nd:Nat),T.xfns.contains f=Γ->T.fns[f]?=Φ (x,d,nd)->∃e b,FnOk P w K mg base (CXe P w) (k+1) e b d (spX K cf f)/\mg x=Φ (.ref e)/\keepIn K (.ref e)=Γ/\Binds K b d []):
  XTabOk T cf (k+1) P w K mg base:=by
 refine⟨λc x f h=>?_,a.fl,a.is,a.ib,fn,a.tr⟩;let⟨C,i,g,st,b,s,y,j,l,m,n,o,p,q,r⟩:=a.cl c x f h;exact⟨C,i,b,["self",y],j,l,m,n,zpg o p q,r⟩
def zqj(hb:∀x,T.blt.contains x=Γ->mg x=Ψ)(hc:∀x d,T.cons.lookup x=Φ d->zoa d=Γ/\∃u,mg x=Φ u/\RelV (sV d) u)(hd:∀a x l nd,T.fns[a]?=Φ (x,l,nd)->DefOk K mg T Pg a x l nd\/PrimOk P w K mg base T Pg a x l nd)(hk:ClsOk T K mg Pg)(O:XSOk T K mg Pg) :
  ∀n,TabOk T (callF Pg n) (2*n+1) P w K mg base:=by
 intro n;induction n with
 |zero=>
  refine⟨hb,hc,λa x l nd U j J=>?_,zfW Pg 0,hk.cls,λc m a h=>zkw (zeW (hk.mth c m a h)),λc a j h=>zkx (zeW (hk.ini c a j h)),λx m a h=>zky (zeW (hk.cmd x m a h)),λ_=>hk.cln,hk.isa,O.tab (λf x l nd Y h2=>?_),λc a j h=>zhL (zfG (hk.ini c a j h)),λc m a h=>zhK (zfG (hk.mth c m a h))⟩
  rotate_left
  let⟨F,o,st,dV,fa,q,N,i,C,B,S,L,t,M,y,e⟩:=(O.fn f x l nd Y h2).ex;refine⟨fa,q,⟨λI H Q E h=>zeJ i t h,λA g s H args us I Q E hr e0 b v h=>?_⟩,y,B.kp,e 0 (zero_le _)⟩;let⟨ι,S,ds,r,hh,w⟩:=h;exact w.elim;rcases hd a x l nd U with z|z;let⟨F,o,st,dV,f,q,N,i,C,B,S,L,t,M,y,e⟩:=z.ex;refine⟨f,q,_,⟨λI H Q E h=>zeK i t h,λA g s H args us I Q E hr e0 b v h=>?_⟩,y,B.kp,e j J,Vals.nons j⟩;let⟨ι,S,ds,r,hh,w⟩:=h;exact w.elim;let⟨F,p,f,q,i,C,t,y,kp,e,ok⟩:=z.ex;refine⟨f,q,_,⟨λI H Q E h=>zeK i t h,λA g s H args us I Q E hr e0 b v h=>?_⟩,y,kp,e j J,Vals.nons j⟩;let⟨ι,S,ds,r,hh,w⟩:=h;exact w.elim
 |succ n G=>
  refine⟨hb,hc,λa x l nd U j J=>?_,zfW Pg (n+1),hk.cls,λc m a h=>zkw (zeX G (hk.mth c m a h)),λc a j h=>zkx (zeX G (hk.ini c a j h)),λx m a h=>zky (zeX G (hk.cmd x m a h)),λ_=>hk.cln,hk.isa,O.tab (λf x l nd Y h2=>?_),λc a j h=>zhL (zfH G (hk.ini c a j h)),λc m a h=>zhK (zfH G (hk.mth c m a h))⟩
  rotate_left
  let⟨F,o,st,dV,fa,q,N,i,C,B,S,L,t,M,y,e⟩:=(O.fn f x l nd Y h2).ex;exact⟨fa,q,zgR G B i S L t M C,y,B.kp,e 0 (zero_le _)⟩;rcases hd a x l nd U with z|z;let⟨F,o,st,dV,f,q,N,i,C,B,S,L,t,M,y,e⟩:=z.ex;exact⟨f,q,_,(zkN G B i S L t M C),y,B.kp,e j J,Vals.nons j⟩;let⟨F,p,f,q,i,C,t,y,kp,e,ok⟩:=z.ex;refine⟨f,q,_,?_,y,kp,e j J,Vals.nons j⟩;by_cases c:3<=n;exact(ok n c G).mono (by lia)
  . refine⟨λI H Q E h=>zeK i t h,λA g s H args us I Q E hr e0 b v h=>?_⟩;let⟨ι,S,ds,r,hh,w⟩:=h;cases p<;>(simp![callF,i,C]at w;split at w<;>exact w.elim)
abbrev AllAtG{b:Type}(P:Nat->b->Prop):Nat->List b->Prop
 |_,[]=>True|k,a::r=>P k a/\AllAtG P (k+1) r
def znq{P}:∀{l:List c}{k:Nat},AllAtG P k l->∀(i:Nat)(a:c),l[i]?=Φ a->P (k+i) a
 | [],_,_,i,a,h=>by simp at h|b::r,k,q,0,a,h=>by cases h;exact q.1| b::r,k,q,i+1,a,h=>by
  have:=znq q.2 i a (by simpa using h)
  rwa [Nat.add_right_comm]at this
def AllAt.get{P:Nat->b->Prop}{l:List b}(q:AllAtG P 0 l)(i)(a)(h:l[i]?=Φ a):P i a:=zero_add i▸znq q i a h
abbrev AllInG{b:Type}(P:b->Prop):List b->Prop
 | []=>True|a::r=>P a/\AllInG P r
def AllIn.get[BEq c][LawfulBEq c]{P}:∀{l:List c},AllInG P l->∀a,l.contains a=Γ->P a
 | [],_,a,h=>by simp at h| b::r,q,a,h=>by rw[Ϣ,ϙ]at h;rcases h with h|h;rw[eq_of_beq h];exact q.1;exact AllIn.get q.2 a h
def law_spT{ns:List Int}(c:FixL K H a (ns.map V.int))(f:TB H)(b:W (callF Pg k g [.fix (ns.map .int)] ⟨[],[],[]⟩) λd _=>d=.bl Γ):spF K (callF Pg k) g [.ref a] H (λv _=>v=.bl Γ) λ_ _ _=>False:=by
 refine⟨[],⟨[],[],[]⟩,[.fix (ns.map .int)],⟨.ref a,[],rfl,⟨a,_,rfl,c,RVs.ints ns⟩,rfl⟩,⟨rfl,List.nodup_nil,λl o e=>(by simp[St.get]at e),f⟩,?_⟩;let⟨d,h,e,q⟩:=zfj b;rw[e];intro v H' ι' x r i;subst q;exact r
end
abbrev okD(T:Tab)(F:Fn)(N a:List Str)(st:Stmt):Bool:=
 decide ((zac st).kind=.function)&&(!(zac st).isCoroutine&&(!(zac st).isGenerator&&(decide N.Nodup&&(decide (N.take a.length=a)&&(a.all (λx=>decide ((zac st).names.lookup x=Φ .local)||decide ((zac st).names.lookup x=Φ .cell)) &&
  ((zac st).names.all (λy=>decide (y.2≠.free))&&(chkS T F.body N (zac st) (zal st)&&(decide (F.np=a.length)&&(decide (F.nn=N.length)&&(F.prim.isNone&&decide (N≠T.lam)))))))))))
structure OkD(T:Tab)(Pg:List Fn)(fi:Nat)(x q:Str)(ps:List Str)(st:Stmt):Prop where
 ex:∃(F:Fn) (N:List Str),Pg[fi]?=Φ F/\F.prim=Ψ/\FnScope N ps (zac st)/\ChkD T F.body N (zac st) (zal st)/\F.np=ps.length/\F.nn=N.length
 bd:∀(kV doc pm:Ξ)(an:Option Addr)(cdv ct:Ξ)(us:List Ξ),us.length=ps.length->bindArgs (fnOf x q (zaz st) (zal st) (zac st) .none kV doc pm an cdv ct) ⟨us,[]⟩=pure (ps.zip us)
def zav{st}(N)(e:j[k]?=Φ F)(h:okD T F N a st=Γ)(b:∀(kV c l:Ξ)(m:Option Addr)(d ct:Ξ)(us:List Ξ),us.length=a.length->bindArgs (fnOf x q (zaz st) (zal st) (zac st) .none kV c l m d ct) ⟨us,[]⟩=pure (a.zip us)):OkD T j k x q a st:=by
 simp![okD,Ε,Ϡ,decide_eq_true_eq,all_eq_true,ϙ,Option.isNone_iff_eq_none]at h;let⟨n,o,p,r,s,t,u,v,w,f,g,i⟩:=h;exact⟨⟨F,N,e,g,⟨n,o,p,r,s,t,u⟩,⟨v,i⟩,w,f⟩,b⟩
def AllInG.cons{b:Type}{P:b->Prop}{a:b}{r:List b}(h:P a)(t:AllInG P r):AllInG P (a::r):=⟨h,t⟩
def AllAtG.cons{b:Type}{P:Nat->b->Prop}{k:Nat}{a:b}{r:List b}(h:P k a)(t:AllAtG P (k+1) r):AllAtG P k (a::r):=⟨h,t⟩
def AllInG.mem:∀{l:List c},AllInG P l->∀a∈l,P a
 |b::r,q,a,h=>by rcases mem_cons.mp h with rfl|h;exact q.1;exact AllInG.mem q.2 a h
section
variable{P:Ο}{w:ϋ}{K:PySem.W.Frag}{h base:Heap}{mg:Str->Option Ξ}{T:Tab}{Pg:List Fn}{fi c:Nat}{x q m:Str}{ps:List Str}{st:Stmt}{f C:Addr}{oc kV dc pm cd ct:Ξ}{od an:Option Addr}{sl:Array (Option Ξ)}
def dOk(X:K.In h)(G:h.Ns mainGlobals mg)(o:OkD T Pg fi x x ps st)(a:nsIn K mainGlobals x=Φ (Φ (.ref f)))(l:K.lookup f=Φ ⟨oc,od,.func (fnOf x x (zaz st) (zal st) (zac st) .none kV dc pm an cd ct),sl⟩)(c:codeIn K cd x=Γ)
  (k:keepIn K (.ref f)=Γ):DefOk K mg T Pg fi x ps 0\/PrimOk P w K mg base T Pg fi x ps 0:=by
 let⟨F,N,d,e,g,i,n,p⟩:=o.ex;have b:=zcO l c k;exact .inl ⟨⟨F,x,st,_,f,_,N,d,e,b,g,i,n,p,mg_of X G a,λj r=>(Nat.le_zero.mp r).symm▸b.binds o.bd⟩⟩
abbrev ClAt(K:PySem.W.Frag)(mg:Str->Option Ξ)(T:Tab)(c:Nat)(x:Str):Prop:=∃C,Mks.cl[c]?=Φ C/\Cls K C/\mg x=Φ (.ref C)/\∀f,T.flds.contains f=Γ->NoAttr K C f
def clOk(X:K.In h)(G:h.Ns mainGlobals mg)(e:Mks.cl[c]?=Φ C)(a:nsIn K mainGlobals x=Φ (Φ (.ref C)))(b:plainGet K C Str.empty=Γ)(hd:PySem.W.hasDictIn K C=Γ)(d:plainOver K C=Γ)
  (g:PySem.W.findIn K (.ref C) "__setattr__"=Φ (Φ (.builtin "object.__setattr__"))) (n:AllInG (λf=>PySem.W.findIn K (.ref C) f=Φ Ψ) T.flds):ClAt K mg T c x:=
 ⟨C,e,⟨b,hd,d,g⟩,mg_of X G a,AllIn.get n⟩
def mOk0(o:OkD T Pg fi m q ps st)(l:K.lookup f=Φ ⟨oc,od,.func (fnOf m q (zaz st) (zal st) (zac st) .none kV dc pm an cd ct),sl⟩)(b:codeIn K cd q=Γ)(k:keepIn K (.ref f)=Γ)(e:d f):MOk K T Pg fi 0 d:=by let⟨F,N,g,i,j,n,p,r⟩:=o.ex;have a:=zcO l b k;exact⟨⟨F,m,q,st,_,f,_,N,ps,g,i,a,j,n,p,r,a.binds o.bd,e⟩⟩
def mOk(b:AllAtG (ClAt K mg T) 0 T.cls)(o:OkD T Pg fi m q ps st)(e:Mks.cl[c]?=Φ C)(ex:T.cls[c]?=Φ x)(t:PySem.W.findIn K (.ref C) m=Φ (Φ (.ref f)))(l:K.lookup f=Φ ⟨oc,od,.func (fnOf m q (zaz st) (zal st) (zac st) .none kV dc pm an cd ct),sl⟩)
  (d:codeIn K cd q=Γ) (k:keepIn K (.ref f)=Γ) (i:isFn K (.ref f)=Γ):MOk K T Pg fi 0 (ExM K c m):=by
 let⟨g,a,j,_⟩:=AllAt.get b c x ex;exact mOk0 o l d k ⟨g,a,j,by rw[e]at a;cases a;exact⟨t,i,k⟩⟩
def iOk(o:OkD T Pg fi "__init__" q ps st)(e:Mks.cl[c]?=Φ C)(mk:makesIn K C=Γ)(t:PySem.W.findIn K (.ref C) "__init__"=Φ (Φ (.ref f)))(a:keepIn K (.ref C)=Γ)(l:K.lookup f=Φ ⟨oc,od,.func (fnOf "__init__" q (zaz st) (zal st) (zac st) .none kV dc pm an cd ct),sl⟩)
 (b:codeIn K cd q=Γ) (k:keepIn K (.ref f)=Γ) (i:isFn K (.ref f)=Γ):MOk K T Pg fi 0 (ExI K c):=mOk0 o l b k ⟨C,e,mk,t,i,a⟩
def cOk(X:K.In h)(G:h.Ns mainGlobals mg)(o:OkD T Pg fi m q ps st)(a:nsIn K mainGlobals x=Φ (Φ (.ref C)))(g:specialIn K (.ref C) "__getattribute__"=Φ (Φ (.builtin "type.__getattribute__")))(r:readsIn K C (.type "type")=Γ)
  (t:findCls K (.ref C) (.type "type") m=Φ (.val (.ref f))) (l:K.lookup f=Φ ⟨oc,od,.func (fnOf m q (zaz st) (zal st) (zac st) .none kV dc pm an cd ct),sl⟩) (b:codeIn K cd q=Γ) (k:keepIn K (.ref f)=Γ):MOk K T Pg fi 0 (ExC K mg x m):=
 mOk0 o l b k ⟨C,_,mg_of X G a,g,r,t⟩
abbrev IsAt(K:PySem.W.Frag)(mg:Str->Option Ξ)(z:Str×List Nat):Prop:=∃D,mg z.1=Φ (.ref D)/\∀c C,Mks.cl[c]?=Φ C->IsaOk K C/\kitOne K (.ref C) (.ref D)=Φ (z.2.contains c)
abbrev CoAt(K:PySem.W.Frag)(z:Str×D):Prop:=∃i t,z.2=.int i/\nsIn K mainGlobals z.1=Φ (Φ (.int i t))
def coOk(a:nsIn K mainGlobals x=Φ (Φ (.int i t))):CoAt K (x,.int i):=⟨i,t,rfl,a⟩
end
abbrev okL(T:Tab)(F:Fn)(a:List Str)(st:Stmt):Bool:=
 decide ((zac st).kind=.function)&&(!(zac st).isCoroutine&&(!(zac st).isGenerator&&(decide T.lam.Nodup&&(decide (T.lam.take a.length=a)&&(a.all (λx=>decide ((zac st).names.lookup x=Φ .local)||decide ((zac st).names.lookup x=Φ .cell)) &&
  ((zac st).names.all (λy=>decide (y.2≠.free))&&(chkS T F.body T.lam (zac st) (zal st)&&(decide (F.np=a.length)&&decide (F.nn=T.lam.length)))))))))
structure OkL(T:Tab)(Pg:List Fn)(fi:Nat)(x:Str)(ps:List Str)(nd:Nat)(st:Stmt):Prop where
 ex:∃F:Fn,Pg[fi]?=Φ F/\F.prim=Φ .lam/\FnScope T.lam ps (zac st)/\chkS T F.body T.lam (zac st) (zal st)=Γ/\F.np=ps.length/\F.nn=T.lam.length
def zrI{st}(e:b[c]?=Φ F)(d:F.prim=Φ .lam)(h:okL T F f st=Γ):OkL T b c x f nd st:=by simp![okL,Ε,Ϡ,decide_eq_true_eq,all_eq_true,ϙ]at h;let⟨g,i,j,k,l,m,n,o,p,a⟩:=h;exact⟨F,e,d,⟨g,i,j,k,l,m,n⟩,o,p,a⟩
def zrY{K}{st}{z kV i B ct}(lk:K.lookup f=Φ ⟨oc,od,.func (fnOf x a (zaz st) (zal st) (zac st) z kV i B O (.ref c) ct),U⟩)(o:codeIn K (.ref c) a=Γ)(Y:codeHdIn K c T.lamP=Γ)(bm:BM q base)(t:(T.lamP,a ++ ".<locals>." ++ "<lambda>")∈Mks.ts)(one:∀p∈Mks.ts,p.1=T.lamP->p.2=a ++ ".<locals>." ++ "<lambda>")(S:FnScope T.lam C (zac st))(ck:chkS T F.body T.lam (zac st) (zal st)=Γ)(I:l[fi]?=Φ F)(hq:F.prim=Φ .lam)(hp:F.np=C.length)(hn:F.nn=T.lam.length)(h3:3<=n)(hm:3<=m)(tab:TabOk T (callF l n) m P w K q base):
  FnOk P w K q base CX0 (m+2) f (fnOf x a (zaz st) (zal st) (zac st) z kV i B O (.ref c) ct) C (spF K (callF l (n+1)) fi):=by
 refine zkA (zpm lk o S (λvs H Q E h=>zeJ I hp h) λA g s H vs Q E hr h=>?_);let⟨ι,J,u,r,hh,b⟩:=h;have G:Gd T (callF l n) m T.lam (zac st) (cxOf (CXe P w) P w K q base T.lam a (zac st) f (.ref c) A g s H E):=⟨rfl,S.nd,λx e=>e,λx e=>e,λx e=>.inl e,λx e=>e,.inl λ_=>rfl,rfl,PassesOwn.leaving,hr,tab,λ_=>⟨hm,c,⟨bm,rfl,Y,t,one⟩⟩⟩;refine⟨_,zaL F.body G ⟨rfl,rfl⟩ ck,?_⟩;simp![callF,I,hq,h3]at b;by_cases c:u.length=F.np;rw[if_pos c]at b;cases ex:exS (callF l n) F.body (zar F u) J with
 |ok fl L=>rw[ex]at b;refine⟨zar F u,ι,J,λy T2=>y=fl/\T2=L,RS.start r c hn,hh,by rw[ex];exact⟨rfl,rfl⟩,?_⟩;rintro y j M S' N k ⟨rfl,rfl⟩;cases y with|nx δ'=>exact λσ' hs'=>b .non M j N rfl k|rt d=>exact λv rv=>b v M j N rv k|ex d=>exact b.elim
 |err d L=>rw[ex]at b;exact b.elim|bad=>rw[ex]at b;exact b.elim
 rw[if_neg c]at b;exact b.elim
def lOk{K}{st}{y m kV b q ct}(X:K.In h)(G:h.Ns mainGlobals d)(z:BM d base)(o:OkL T r s x g nd st)(i:(T.lamP,x ++ ".<locals>." ++ "<lambda>")∈Mks.ts)(one:∀p∈Mks.ts,p.1=T.lamP->p.2=x ++ ".<locals>." ++ "<lambda>")(A:∀j,j<=nd->Binds K (fnOf x x (zaz st) (zal st) (zac st) m kV b q B (.ref c) ct) g (List.replicate j Ξ.none))(a:nsIn K mainGlobals x=Φ (Φ (.ref f)))(l:K.lookup f=Φ ⟨y,od,.func (fnOf x x (zaz st) (zal st) (zac st) m kV b q B (.ref c) ct),L⟩)(C:codeIn K (.ref c) x=Γ)(k:keepIn K (.ref f)=Γ)(e:codeHdIn K c T.lamP=Γ):DefOk K d T r s x g nd\/PrimOk P w K d base T r s x g nd:=by
 let⟨F,t,u,E,H,v,I⟩:=o.ex;exact .inr ⟨⟨F,.lam,f,_,t,u,v,mg_of X G a,k,A,λn J tab=>zrY l C e z i one E H t u v I J (by lia) tab⟩⟩
structure OkE(T:Tab)(Pg:List Fn)(fi:Nat)(ps:List Str)(st:Stmt):Prop where
 ex:∃(F:Fn) (N:List Str),Pg[fi]?=Φ F/\F.prim=Ψ/\FnScope N ps (zac st)/\ChkD T F.body N (zac st) (zal st)/\F.np=ps.length/\F.nn=N.length
def zrJ{st}(N)(e:d[f]?=Φ F)(h:okD T F N g st=Γ):OkE T d f g st:=by simp![okD,Ε,Ϡ,decide_eq_true_eq,all_eq_true,ϙ,Option.isNone_iff_eq_none]at h;let⟨i,j,k,l,m,n,o,p,q,a,b,c⟩:=h;exact⟨F,N,e,b,⟨i,j,k,l,m,n,o⟩,⟨p,c⟩,q,a⟩
def iOkD{K}{st}{u kV v a p ct xc}(o:OkE T w x b st)(y:b.length=n+j)(h:∀(d:Addr)(kV g a:Ξ)(r:Option Addr)(m ct:Ξ)(us:List Ξ),us.length=n->∃k,bindArgs (fnOf "__init__" q (zaz st) (zal st) (zac st) (.ref d) kV g a r m ct) ⟨us,[]⟩=seqItems? (.ref d)>>=k/\k (Φ items)=pure (b.zip (us++List.replicate j Ξ.none)))(e:Mks.cl[c]?=Φ C)(mk:makesIn K C=Γ)(t:PySem.W.findIn K (.ref C) "__init__"=Φ (Φ (.ref f)))(z:keepIn K (.ref C)=Γ)(l:K.lookup f=Φ ⟨u,od,.func (fnOf "__init__" q (zaz st) (zal st) (zac st) (.ref d) kV v a r p ct),M⟩)(A:codeIn K p q=Γ)(k:keepIn K (.ref f)=Γ)(i:isFn K (.ref f)=Γ)(B:K.lookup d=Φ ⟨xc,O,.seq items Q,xs⟩):MOk K T w x j (ExI K c):=by
 let⟨F,N,E,G,H,I,J,L⟩:=o.ex;have s:=zcO l A k;exact⟨⟨F,"__init__",q,st,_,f,_,N,b,E,G,s,H,I,J,L,znl n (by rw[length_replicate];exact y) s B (h d),C,e,mk,t,i,z⟩⟩
structure OkX(q:Str)(st:Stmt)(xR y f:Str):Prop where
 tx:XSt st xR y f
 bd:∀(kV doc pm:Ξ)(an:Option Addr)(cdv ct:Ξ)(us:List Ξ),us.length=2->bindArgs (fnOf "__init__" q (zaz st) (zal st) (zac st) .none kV doc pm an cdv ct) ⟨us,[]⟩=pure ([("self":Str),y].zip us)
section
variable{P:Ο}{w:ϋ}{K:PySem.W.Frag}{h base:Heap}{mg:Str->Option Ξ}{T:Tab}{Pg:List Fn}{fi c:Nat}{x q f y xR:Str}{ps:List Str}{st:Stmt}{fI C CR:Addr}{oc kV dc pm cd ct:Ξ}{od an:Option Addr}{sl:Array (Option Ξ)}
abbrev zpI(K:PySem.W.Frag)(mg:Str->Option Ξ)(z:Nat×Str×Str):Prop:=∃(C fI:Addr) (a:Str) (st:Stmt) (b:FuncData) (xR y:Str),Mks.xc[z.1]?=Φ C/\mg z.2.1=Φ (.ref C)/\keepIn K (.ref C)=Γ/\Xc K C fI z.2.2/\FunV K "__init__" a st .none fI b/\XSt st xR y z.2.2/\XUp K mg xR/\Binds K b ["self",y] []
def xcOk(X:K.In h)(G:h.Ns mainGlobals mg)(o:OkX q st xR y f)(e:Mks.xc[c]?=Φ C)(a:nsIn K mainGlobals x=Φ (Φ (.ref C)))(d:keepIn K (.ref C)=Γ)(t:PySem.W.findIn K (.ref C) "__init__"=Φ (Φ (.ref fI)))(g:excJ K C fI=Γ)(i:isFn K (.ref fI)=Γ)
  (j:PySem.W.findIn K (.ref C) "__setattr__"=Φ (Φ (.builtin "object.__setattr__"))) (m:zjP K C=Γ) (hd:PySem.W.hasDictIn K C=Γ) (n:PySem.W.findIn K (.ref C) f=Φ Ψ)
  (l:K.lookup fI=Φ ⟨oc,od,.func (fnOf "__init__" q (zaz st) (zal st) (zac st) .none kV dc pm an cd ct),sl⟩) (p:codeIn K cd q=Γ) (k:keepIn K (.ref fI)=Γ)
  (r:nsIn K mainGlobals xR=Φ (Φ (.ref CR))) (s:specialIn K (.ref CR) "__getattribute__"=Φ (Φ (.builtin "type.__getattribute__"))) (u:readsIn K CR (.type "type")=Γ) (v:findCls K (.ref CR) (.type "type") "__init__"=Φ (.val (.builtin "ValueError.__init__"))):zpI K mg (c,x,f):=by
 have b:=zcO l p k;exact⟨C,fI,q,st,_,xR,y,e,mg_of X G a,d,⟨g,i,j,m,hd,n⟩,b,o.tx,⟨CR,mg_of X G r,s,u,v⟩,b.binds o.bd⟩
abbrev zpK(K:PySem.W.Frag)(mg:Str->Option Ξ)(z:Str×List Nat):Prop:=∃D,mg z.1=Φ (.ref D)/\AllAtG (λc C=>kitOne K (.ref C) (.ref D)=Φ (z.2.contains c)) 0 Mks.xc
def xisOk{D}(X:K.In h)(G:h.Ns mainGlobals mg)(a:nsIn K mainGlobals x=Φ (Φ (.ref D)))(b:AllAtG (λc C=>kitOne K (.ref C) (.ref D)=Φ (d.contains c)) 0 Mks.xc):zpK K mg (x,d):=⟨D,mg_of X G a,b⟩
abbrev zpL(K:PySem.W.Frag)(mg:Str->Option Ξ)(z:Str×List Nat):Prop:=mg z.1=Ψ/\z.1≠"__name__"/\∃t,bootBuiltins z.1=Φ (.type t)/\AllAtG (λc C=>kitOne K (.ref C) (.type t)=Φ (z.2.contains c)) 0 Mks.xc
def xibOk(X:K.In h)(G:h.Ns mainGlobals mg)(b:x≠"__name__")(d:bootBuiltins x=Φ (.type t))(a:nsIn K mainGlobals x=Φ Ψ)(e:AllAtG (λc C=>kitOne K (.ref C) (.type t)=Φ (g.contains c)) 0 Mks.xc):zpL K mg (x,g):=⟨PySem.W.mg_none_of X G a,b,t,d,e⟩
abbrev zpJ(K:PySem.W.Frag)(mg:Str->Option Ξ)(x:Str):Prop:=∃CR,mg x=Φ (.ref CR)/\AllInG (λC=>PySem.W.exmOne K (.ref C) (.ref CR)=Φ Γ) Mks.xc
def xtrOk(X:K.In h)(G:h.Ns mainGlobals mg)(a:nsIn K mainGlobals x=Φ (Φ (.ref CR)))(b:AllInG (λC=>PySem.W.exmOne K (.ref C) (.ref CR)=Φ Γ) Mks.xc):zpJ K mg x:=⟨CR,mg_of X G a,b⟩
def zsZ(k:T.xfns.all (λi=>match Pg[i]? with|some F=>F.prim.isNone|none=>Γ)=Γ)(hd:AllAtG (λfi q=>DefOk K mg T Pg fi q.1 q.2.1 q.2.2\/PrimOk P w K mg base T Pg fi q.1 q.2.1 q.2.2) 0 T.fns)(d:AllInG (XGet K) Mks.xc)(j:AllInG (IsaOk K) Mks.xc)(l:AllInG (zpI K mg) T.xcs)(o:AllInG (λf=>AllInG (λC=>PySem.W.findIn K (.ref C) f=Φ Ψ) Mks.xc) T.xflds)
  (r:AllInG (zpK K mg) T.xisas) (s:AllInG (zpL K mg) T.xisbs) (u:AllInG (zpJ K mg) T.xtrs):XSOk T K mg Pg:=by
 refine⟨λc x f h=>AllIn.get l (c,x,f) h,λf h c C e=>⟨d.mem C (mem_of_getElem? e),(AllIn.get o f h).mem C (mem_of_getElem? e)⟩,λx g h=>?_,λx g h=>?_,λf x ps B h e=>?_,λx h=>?_⟩;let⟨D,m,a⟩:=AllIn.get r (x,g) h;exact⟨D,m,λc C e=>⟨d.mem C (mem_of_getElem? e),j.mem C (mem_of_getElem? e),AllAt.get a c C e⟩⟩;let⟨m,n,t,b,a⟩:=AllIn.get s (x,g) h;exact⟨m,n,t,b,λc C e=>⟨d.mem C (mem_of_getElem? e),j.mem C (mem_of_getElem? e),AllAt.get a c C e⟩⟩;rcases AllAt.get hd f _ e with z|z;exact z;let⟨F,p,_,_,v,A,_⟩:=z.ex;have:=all_eq_true.mp k f (by simpa using h);simp[v,A]at this;let⟨CR,m,a⟩:=AllIn.get u x h;exact⟨CR,m,λc C e=>a.mem C (mem_of_getElem? e)⟩
end
def lOkD{K}{st}{z kV b i ct xc}(X:K.In h)(G:h.Ns mainGlobals m)(A:BM m base)(o:OkL T t u x g nd st)(r:(T.lamP,x ++ ".<locals>." ++ "<lambda>")∈Mks.ts)(one:∀p∈Mks.ts,p.1=T.lamP->p.2=x ++ ".<locals>." ++ "<lambda>")(B:∀j,j<=nd->∃n,g.length=n+j/\∀(d:Addr)(kV b i:Ξ)(v:Option Addr)(s ct:Ξ)(us:List Ξ),us.length=n->∃k,bindArgs (fnOf x x (zaz st) (zal st) (zac st) (.ref d) kV b i v s ct) ⟨us,[]⟩=seqItems? (.ref d)>>=k/\k (Φ items)=pure (g.zip (us++List.replicate j Ξ.none)))(a:nsIn K mainGlobals x=Φ (Φ (.ref f)))(l:K.lookup f=Φ ⟨z,od,.func (fnOf x x (zaz st) (zal st) (zac st) (.ref d) kV b i v (.ref c) ct),I⟩)(y:codeIn K (.ref c) x=Γ)(k:keepIn K (.ref f)=Γ)(e:codeHdIn K c T.lamP=Γ)(C:K.lookup d=Φ ⟨xc,J,.seq items L,xs⟩):DefOk K m T t u x g nd\/PrimOk P w K m base T t u x g nd:=
 lOk X G A o r one (λj E=>by let⟨n,H,q⟩:=B j E;exact znl n (by rw[length_replicate];exact H) (zcO l y k) C (q d)) a l y k e
def all_of{B:Heap->Prop}{l:PySem.W.OpenLaw}{K}{st}{oc kV O Q y ct}(X:K.In h)(G:h.Ns mainGlobals b)(z:b "law"=Φ (.ref fa))(o:OkD T r g "law" "law" [U] st)(ln:Mks.cl.length<=T.cls.length)(u:AllAtG (ClAt K b T) 0 T.cls)(hb:AllInG (λx=>nsIn K mainGlobals x=Φ Ψ) T.blt)(hc:AllInG (CoAt K) T.cons)(hd:∀base:Heap,B base->AllAtG (λg q=>DefOk K b T r g q.1 q.2.1 q.2.2\/PrimOk l.prog w K b base T r g q.1 q.2.1 q.2.2) 0 T.fns)(hm:AllAtG (ClAt K b T) 0 T.cls->AllInG (λq=>MOk K T r q.2.2 0 (ExM K q.1 q.2.1)) T.mts)(hi:AllInG (λq=>MOk K T r q.2.1 q.2.2 (ExI K q.1)) T.inits)(p:AllInG (λq=>MOk K T r q.2.2 0 (ExC K b q.1 q.2.1)) T.cms)(hs:AllInG (IsAt K b) T.isas)(hp:T.xfns.all (λi=>match r[i]? with|some F=>F.prim.isNone|none=>Γ)=Γ)(A:AllInG (XGet K) Mks.xc)(E:AllInG (IsaOk K) Mks.xc)(H:AllInG (zpI K b) T.xcs)(I:AllInG (λf=>AllInG (λC=>PySem.W.findIn K (.ref C) f=Φ Ψ) Mks.xc) T.xflds)(J:AllInG (zpK K b) T.xisas)(L:AllInG (zpL K b) T.xisbs)(M:AllInG (zpJ K b) T.xtrs)(a:nsIn K mainGlobals "law"=Φ (Φ (.ref f)))(l0:K.lookup f=Φ ⟨oc,od,.func (fnOf "law" "law" (zaz st) (zal st) (zac st) .none kV O Q an y ct),sl⟩)(c:codeIn K y "law"=Γ)(k:keepIn K (.ref f)=Γ):
  ∃Y:FuncData,(∀(s:Ζ)(v:Ξ),BindsTo s Y ⟨[v],[]⟩ [(U,v)])/\∀base:Heap,K.In base->base.Ns mainGlobals b->B base->FnOk l.prog w K b base CX0 (2*n+3) fa Y [U] (spF K (callF r (n+1)) g):=by
 have e:=z.symm.trans (mg_of X G a);cases e;let⟨F,N,h1,h2,h3,h4,h5,h6⟩:=o.ex;refine⟨fnOf "law" "law" (zaz st) (zal st) (zac st) .none kV O Q an y ct,λs v=>.of_eq (o.bd _ _ _ _ _ _ [v] rfl),λbase _ _ bm=>?_⟩;refine zkN (zqj (λx p=>PySem.W.mg_none_of X G (AllIn.get hb x p)) (λx d p=>?_) (λg x ps nd hf=>AllAt.get (hd base bm) g _ hf)
  ⟨AllAt.get u,λc m g p=>AllIn.get (hm u) (c,m,g) p,λc g j p=>AllIn.get hi (c,g,j) p,λx m g h=>AllIn.get p (x,m,g) h,ln,λx cs p=>AllIn.get hs (x,cs) p⟩ (zsZ hp (hd base bm) A E H I J L M) n) (zcO l0 c k) h1 h3 h4 h5 h6 h2
 let⟨i,t,e,q⟩:=hc.mem (x,d) (PySem.mem_of_lookup p);cases(show d=.int i from e);exact⟨rfl,_,mg_of X G q,⟨_,rfl⟩⟩
abbrev H0(K:PySem.W.Frag)(a:Addr)(o:Obj)(xs:List V):Hp:=λb=>if b∈Mks.ts.map (·.1) then Φ (.tbl #[]) else if b=a then(match K.lookup a with|some _=>Ψ|none=>Φ (.frz o (.lst xs))) else Ψ
def zkb{K}(KX:K.In c.heap)(I:c.heap.Ns mainGlobals A)(Y:c.heap.Ns builtinsNs mb)(hbb:∀x:Str,x≠"__name__"->mb x=bootBuiltins x)(J:c.heap.NoLimit)(hg:c.gens = #[])(bm:BM A c.heap)(G:c.heap.get? a=Φ {cls:=.type "list",data:=.seq vs.toArray})(hi:IntsAre vs ns)(hl:ns.length<=sizeLine)(hr:Room k callerA)(g:∀p∈Mks.ts,c.heap.get? p.1=Φ (tabObj #[])/\K.lookup p.1=Ψ/\isCodeTable c.heap p.1)(F:∀base:Heap,K.In base->base.Ns mainGlobals A->BM A base->FnOk P w K A base CX0 k fa fd [x] sp)(B:∀(s:Ζ)(u:Ξ),BindsTo s fd ⟨[u],[]⟩ [(x,u)])(hsp:∀H:Hp,FixL K H a (ns.map V.int)->TB H->sp [.ref a] H (λv _=>v=.bl Γ) λ_ _ _=>False):
  codeAny (model P w) callerA (.call (.ref fa) ⟨[.ref a],[]⟩) (λr s'=>r=.ok (.ret (.bool Γ))/\OldK c.heap s'.heap/\s'.os=c.os/\AllBare s'.gens) c:=by
 have rv:=zck hi;have L:=hi.length;generalize hH:H0 K a {cls:=.type "list",data:=.seq vs.toArray} (ns.map V.int)=H;have T:∀b,H b=Ψ\/((∃p∈Mks.ts,p.1=b)/\H b=Φ (.tbl #[]))\/(b=a/\K.lookup a=Ψ/\H b=Φ (.frz {cls:=.type "list",data:=.seq vs.toArray} (.lst (ns.map V.int)))):=λb=>by
  rw[<-hH];unfold H0;by_cases C:b∈Mks.ts.map (·.1);let⟨p,i,e⟩:=mem_map.mp C;exact .inr (.inl ⟨⟨p,i,e⟩,if_pos C⟩);rw[if_neg C];by_cases E:b=a;rw[if_pos E];cases e:K.lookup a with|some o=>exact .inl rfl|none=>exact .inr (.inr ⟨E,rfl,rfl⟩)
  rw[if_neg E];exact .inl rfl
 have tb:TB H:=λp i=>⟨#[],by rw[<-hH];exact if_pos (mem_map.mpr ⟨p,i,rfl⟩),trivial,λpos v e=>by simp[codeAmong]at e⟩;have na:a∉Mks.ts.map (·.1):=λz=>by let⟨p,i,e⟩:=mem_map.mp z;have:=(g p i).1;rw[e,G]at this;cases this
 have hx:FixL K H a (ns.map V.int):=by cases e:K.lookup a with| some o=>have U:=KX a o e;rw[G]at U;cases U;exact .inr ⟨_,vs.toArray,_,e,rfl,rfl,rfl,by rw[size_toArray,L];exact hl,by simpa using rv⟩| none=>refine .inl ⟨{cls:=.type "list",data:=.seq vs.toArray},?_⟩;rw[<-hH];unfold H0;rw[if_neg na,if_pos rfl,e]
 have hok:HOk P w H c.heap:=λb u e=>by rcases T b with z|⟨⟨p,i,rfl⟩,z⟩|⟨rfl,_,z⟩;rw[z]at e;exact nS e;rw[z]at e;cases e;exact(g p i).1;rw[z]at e;cases e;exact⟨G,by rw[length_map];exact hl,vs,_,rv,G⟩
 have M:∀{b:Addr}{o:Obj},c.heap.get? b=Φ o->(∀xs n,o.data≠.seq xs n)->(∀fs,o.data≠.fields fs)->H b=Ψ:=λ{b o} e n1 n2=>by rcases T b with z|⟨⟨p,i,rfl⟩,_⟩|⟨rfl,_,_⟩;exact z;rw[(g p i).1]at e;cases e;exact absurd rfl (n2 _);rw[G]at e;cases e;exact absurd rfl (n1 _ _)
 have f:∀{b:Addr}{o:Obj},c.heap.get? b=Φ o->H b=Ψ->(hidT c.heap H).get? b=Φ o:=λe n=>zmj e n;have j:∀{b:Addr}{m:Str->Option Ξ},c.heap.Ns b m->(hidT c.heap H).Ns b m:=λ{b m} ⟨o,es,ep,e,d,r⟩=>⟨o,es,ep,f e (M e (λ_ _ z=>by rw[d]at z;cases z) λ_ z=>by rw[d]at z;cases z),d,r⟩;have N:K.In (hidT c.heap H):=λb o e=>f (KX b o e) (by
  rcases T b with z|⟨⟨p,i,rfl⟩,_⟩|⟨rfl,z,_⟩;exact z;rw[(g p i).2.1]at e;exact nS e;rw[z]at e;exact nS e)
 have hbm:BM A (hidT c.heap H):=by let⟨m,o,C,E,h3,h4,h5,h6,h7⟩:=bm;exact⟨m,o,C,E,h3,f h4 (M h4 (λ_ _ z=>by rw[h7]at z;cases z) λ_ z=>by rw[h7]at z;cases z),h5,h6,h7⟩
 have hM:Mod K A (hidT c.heap H):=⟨N,j I,⟨mb,j Y,hbb⟩,let ⟨mc,C,E⟩:=J;⟨mc,j C,E⟩⟩;have e0:Env0 P w K A (hidT c.heap H) callerA [] c H:=⟨rfl,hM,λb o e=>zoM e,le_of_eq (zkt _ _),trivial,λb Y=>absurd (show b∈([]:List Addr) from Y) (by simp),hok,.of_eq hg⟩;refine ϕ ((F _ N (j I) hbm).run callerA [] c H ⟨[.ref a],[]⟩ [.ref a] [.ref a] _ _ hr e0 (B c (.ref a)) (.cons rfl .nil) (hsp H hx tb)) λr s' h=>?_;cases r with
 |error e=>exact False.elim h| ok fl=>
  cases fl with
  |ret u=>
   let⟨v,H',os,O,un,l,r',q⟩:=h;have q':=q;subst q';obtain rfl:u=Ξ.bool Γ:=r';have Q:∀b o,c.heap.get? b=Φ o->asItWas c.heap s'.heap b o/\∃o',s'.heap.get? b=Φ o':=λb o e=>by rcases T b with z|⟨⟨p,i,rfl⟩,z⟩|⟨rfl,_,z⟩;have k:=un.keep b o e z (by intro y;exact absurd (show b∈([]:List Addr) from y) (by simp)) (by simp);exact⟨.inl k,_,k⟩;let⟨t,z2⟩:=un.tbls _ _ z;have k:=l _ _ z2;have U:=(g p i).1;rw[U]at e;cases e;exact⟨.inr (.inl ⟨(g p i).2.2,rfl,#[],t,rfl,k⟩),_,k⟩;have z2:=un.frzs _ _ _ z;have k:=(l _ _ z2).1;rw[G]at e;cases e;exact⟨.inl k,_,k⟩
   exact⟨rfl,⟨λb o e=>(Q b o e).1,λb o e=>(Q b o e).2⟩,os,O⟩
  |_=>exact False.elim h
def walk_ofT{l:PySem.W.OpenLaw}{YP}{K:Params->PySem.W.Frag}{sp:ϋ->Sp}(U:l.most=Φ n)(r:n<=sizeLine)(t:d.params.defaults=[])(hr:Room k callerA)(hY:∀(w:ϋ)(h:Heap),YP w h->(K w.params).In h)(hT:∀(w:ϋ)(h:Heap),YP w h->∀p∈Mks.ts,h.get? p.1=Φ (tabObj #[]))(hK:∀(w:ϋ),∀p∈Mks.ts,(K w.params).lookup p.1=Ψ/\∃c,codeHdIn (K w.params) c p.1=Γ)(F:∀(w:ϋ)(g:Str->Option Ξ)(m:Addr)(h:Heap),(K w.params).In h->h.Ns mainGlobals g->g d.name=Φ (.ref m)->
   ∃y:FuncData,(∀(s:Ζ)(u:Ξ),BindsTo s y ⟨[u],[]⟩ [(x,u)])/\
    ∀base:Heap,(K w.params).In base->base.Ns mainGlobals g->BM g base->FnOk l.prog w (K w.params) g base CX0 k m y [x] (sp w))(A:∀(w:ϋ)(H:Hp)(a:Addr)(ns:List Int),ns.length<=n->FixL (K w.params) H a (ns.map V.int)->TB H->sp w [.ref a] H (λv _=>v=.bl Γ) λ_ _ _=>False):
  PySem.W.WalkO q B XP YP l.row.toRowW d [] (λf vs=>PySem.call f vs):=by
 refine Att.attach_call U t λw M N g mb m o pm cd doc a vs ns G Y ho O hcd C j i b hg=>?_;have E:=hY w _ Y;let⟨y,hb,hF⟩:=F w g m _ E G.T.g C;let⟨Q,ob,b1,b2,I,b4,b5,J⟩:=G.T.bmain;have L:Q≠mainGlobals:=λz=>by let⟨o,es,ep,e,O,_⟩:=G.T.g;rw[z,e]at I;cases I;rw[O]at J;cases J
 refine zkb E G.T.g G.T.b G.T.builtins G.T.nolimit hg ⟨Q,ob,b1,b2,L,I,b4,b5,J⟩ j i (le_trans b r) hr (λp T=>?_) hF hb λH hx tb=>A w H a ns b hx tb;let⟨k1,c,k2⟩:=hK w p T;have e:=hT w _ Y p T;exact⟨e,k1,((PySem.W.codeHd_of_K E k2).tab e).isCodeTable⟩
end R
namespace R
abbrev oD:Option Int->D|some i=>.int i|none=>.non
open PySem (PyData)
def zeZ{c d:Type}{f}:∀{xs:List c}{ys:List d},xs.mapM f=Φ ys->∀y∈ys,∃x∈xs,f x=Φ y
 | [],ys,h,y,a=>by simp at h;subst h;cases a
 |x::xs,ys,h,y,a=>by
  rw[Ϝ]at h;cases e:f x with
  |none=>rw[e]at h;exact nS h
  |some z=>
   rw[e]at h;cases b:xs.mapM f with
   |none=>rw[b]at h;exact nS h
   |some j=>rw[b]at h;injection h with h;subst h;rcases mem_cons.mp a with rfl|a;exact⟨x,by simp,e⟩;let⟨u,g,i⟩:=zeZ b y a;exact⟨u,by simp[g],i⟩
def zch:∀{xs:List PyData},(∀x∈xs,PyData.eqv x x=Γ)->PyData.eqvAll xs xs=Γ
 | [],_=>by simp[PyData.eqvAll]|x::xs,h=>by simp[PyData.eqvAll,h x (by simp),zch (xs:=xs) λy a=>h y (by simp[a])]
def zgC:∀{n:Nat}{d:D}{a:PyData},pd S n d=Φ a->PyData.eqv a a=Γ:=by
 intro n;induction n with
 |zero=>
  intro d a h;cases d<;>simp![pd]at h
  cases h;simp[PyData.eqv];cases h;simp[PyData.eqv];cases h;simp[PyData.eqv];split at h;cases h;simp[PyData.eqv];exact nS h;exact nS h;exact nS h;exact nS h
 |succ n g=>
  intro d a h;cases d<;>simp![pd]at h
  cases h;simp[PyData.eqv];cases h;simp[PyData.eqv];cases h;simp[PyData.eqv];split at h;cases h;simp[PyData.eqv];exact nS h;rename_i b;cases e:b.mapM (pd S n) with
  |none=>rw[e]at h;exact nS h
  |some i=>rw[e]at h;cases h;exact zch λx c=>let ⟨d,_,f⟩:=zeZ e x c;g f
  split at h;rename_i b _;cases e:b.mapM (pd S n) with
  |none=>rw[e]at h;exact nS h
  |some i=>rw[e]at h;cases h;exact zch λx c=>let ⟨d,_,f⟩:=zeZ e x c;g f
  exact nS h;exact nS h
def zan(S:St)(o):(S.push o).get S.len=Φ o:=by
 have h:¬S.len<S.frz.length:=by unfold St.len;lia
 unfold St.get St.push;unfold St.len;simp
def zad{S:St}(e:S.get l=Φ u):(S.push o).get l=Φ u:=by have h:=zak e;unfold St.len at h;unfold St.get at e⊢;unfold St.push;simp only;split;rename_i c;rw[if_pos c]at e;exact e;rename_i c;rw[if_neg c]at e;rw[getElem?_append_left (by omega)];exact e
def zeQ{S:St}(o)(c:S.frz.length<=l)(a:S.lk.contains l=Δ):∃S',S.put l o=Φ S'/\S'.frz=S.frz/\S'.lk=S.lk/\S'.len=S.len/\(∀m,m≠l->S'.get m=S.get m)/\(l<S.len->S'.get l=Φ o):=by refine⟨{S with new:=S.new.set (l-S.frz.length) o},?_,rfl,rfl,by simp[St.len],λm d=>?_,λb=>?_⟩;unfold St.put;rw[if_neg (by lia),a];rfl;unfold St.get;split;rfl;rw[getElem?_set_ne (by lia)];unfold St.len at b;unfold St.get;simp![show ¬l<S.frz.length by lia,if_false];rw[getElem?_set_self (by lia)]
def zpq(S)(i j):eqD S (.int i) (.int j)=Φ (i==j):=by unfold eqD;have e:∀k,pd S 60 (.int k)=Φ (.int k):=λk=>rfl;show Φ (PyData.eqv (.int i) (.int j))=_;rw[L2.eqv_int]
def ze4(S)(x):∀ks:List Int,inD S (.int x) (ks.map .int)=Φ (decide (x∈ks)):=by
 intro ks;have e:(ks.map D.int).mapM (λz=>eqD S z (.int x))=Φ (ks.map λk=>k==x):=by induction ks with|nil=>rfl|cons k ks a=>rw[Υ,Ϝ,a];rfl
 have f:∀ks:List Int,((ks.map λk=>k==x).any id)=decide (x∈ks):=by intro ks;induction ks with|nil=>rfl| cons k ks a=>rw[Υ,any_cons,a];by_cases c:k=x;subst c;simp;have d:¬x=k:=λz=>c z.symm;have b:=beq_eq_false_iff_ne.mpr c;simp![b,id,Bool.false_or,mem_cons,d,false_or]
 unfold inD;rw[e];exact congrArg Φ (f ks)
def zsa{ks:List Int}(h:S.get l=Φ (.lst (ks.map .int)))(x):cmpO S .In (.int x) (.ref l)=Φ (decide (x∈ks)):=by show((match S.get l with|some (.lst a)=>Φ a|_=>Ψ).bind λb=>inD S (.int x) b)=_;rw[h];exact ze4 S x ks
def zh5(xs)(x:a):R.atI (xs++[x]) (-1)=Φ x:=by
 have:R.ixN (xs++[x]).length (-1)=Φ xs.length:=by unfold R.ixN;simp;lia
 unfold R.atI;rw[this];simp
def zdm{a:Type}{os:List a}{o}(h:os[i]?=Φ o):os.take (i+1)=os.take i++[o]:=by rw[List.take_add_one,h];rfl
def zdX{xs:List a}{k:Nat}{x:a}(h:xs[k]?=Φ x):R.atI xs (k:Int)=Φ x:=by
 have b:=(Α.mp h).1;have e:R.ixN xs.length (k:Int)=Φ k:=by simp[R.ixN,b]
 unfold R.atI;rw[e];exact h
def zmE:R.atI (x::xs) 0=Φ x:=by
 have:R.ixN (x::xs).length 0=Φ 0:=by simp[R.ixN]
 unfold R.atI;rw[this];rfl
def zg0:R.atI (x::y::xs) 1=Φ y:=by
 have:R.ixN (x::y::xs).length 1=Φ 1:=by simp[R.ixN];lia
 unfold R.atI;rw[this];rfl
abbrev zbb(ns:List Int)(k:Nat):Int:=match ns[k]? with|some v=>v%10^64|none=>0
def zdK:∀ks:List Int,zbr (ks.map D.int)=Φ ks
 | []=>rfl| k::ks=>by unfold zbr;rw[Υ,Ϝ,show(ks.map D.int).mapM zbz=Φ ks from zdK ks];rfl
end R
namespace R
abbrev hnds(n:Nat):List Int:=(List.range n).map λ(k:Nat)=>(k:Int)
end R
section
namespace Kz
local macro_rules|`(#[$x])=>`(.cons $x .nil)|`(#[$x,$y,*])=>`(.cons $x #[$y,*])
local macro_rules|`($x:ident)=>let s:=x.getId.toString;let n:=Lean.Syntax.mkNumLit (s.drop 1).toString;if s.length<2||!(s.drop 1).all Char.isDigit then Lean.Macro.throwUnsupported else if s.front=='J' then `(.loc $n) else if s.front=='U' then `(.con (.int $n)) else Lean.Macro.throwUnsupported
local macro_rules | `(tactic| exists $e)=>`(tactic| refine R.wOpt_of $e ?_)
local macro_rules | `(tactic| change $e)=>`(tactic| refine R.wNeed_of $e ?_)
local macro_rules | `(tactic| specialize $e)=>`(tactic| refine R.wOut_of $e ?_)
local macro_rules | `(tactic| left)=>`(tactic| conv=>whnf)
local macro_rules | `(tactic| right)=>`(tactic| refine R.wNeed_of (by first|decide|lia|(simp;done)|(simp;lia)) ?_)
section
open PySem R L2
abbrev zbu:Fn:=⟨1,1,(.ret (.and (.bi (.isin "int") #[J0]) (.nt (.bi (.isin "bool") #[J0]))) .nil),Ψ⟩
abbrev zgc:Fn:=⟨2,2,(.ret (.and (.call 0 0 #[J0]) (.cmp2 .LtE .Lt U0 J0 J1)) .nil),Ψ⟩
abbrev zga:Fn:=⟨1,1,(.ret (.and (.call 0 0 #[J0]) (.cmp .Lt (.bi .abs #[J0]) (.bin .Pow U10 U60))) .nil),Ψ⟩
abbrev zcR:Fn:=⟨3,3,(.ifS (.or (.nt (.tst (.call 0 0 #[J0]))) (.nt (.cmp2 .LtE .LtE J1 J0 J2))) (.rais 0 "NoCount" "told" J0) .nil (.ret J0 .nil)),Ψ⟩
abbrev zdU:Fn:=⟨2,2,(.ifS (.nt (.tst (.call 1 0 #[J0,J1]))) (.rais 1 "NoHand" "hand" J0) .nil (.ret J0 .nil)),Ψ⟩
abbrev zdS:Fn:=⟨1,1,(.ifS (.nt (.tst (.call 2 0 #[J0]))) (.rais 2 "NoWord" "word" J0) .nil (.ret J0 .nil)),Ψ⟩
abbrev zgb:Fn:=⟨1,1,(.ret (.and (.call 0 0 #[J0]) (.cmp2 .LtE .LtE U1 J0 U30)) .nil),Ψ⟩
abbrev zcj:Fn:=⟨2,2,(.retX (.ite (.cmp .Is J0 (.con D.non)) (.val (.bin .Add J1 U1)) (.call 3 #[J0,U1,U8])) .nil),Ψ⟩
abbrev c_short_floods:Fn:=⟨2,2,(.blk (.run 9 #[J0,J1]) (.ret (.mkL (.comp 1 [] [0] (.rng1 J1) (.tst (.con (D.bl Γ))) (.tup #[J0,.bin .Add J0 U1,.tup #[.bin .Add J0 U1]]))) .nil)),Ψ⟩
abbrev c_look_at_counts:Fn:=⟨2,2,(.blk (.run 3 #[J1,U1,U5]) (.blk (.run 3 #[J0,.bin .Add J1 U2,U7]) .nil)),Ψ⟩
abbrev zsw:Fn:=⟨3,6,(.asg 3 (.lst .nil) (.forS [4] (.rng2 U1 (.bin .Add J1 U1)) (.asg 5 (.srtK (.call 11 0 #[J4,J0,J2])) (.expr (.callW 12 0 #[J4,J0,J5]) (.expr (.extv J3 J5) .nil))) (.ret J3 .nil))),Φ .lam⟩
abbrev c_said_in:Fn:=⟨3,9,(.asg 3 (.lst .nil) (.forS [4,5] (.enum J1) (.forS [6,7,8] (.val (.meth "say" [(0,28),(1,32)] J5 #[J0])) (.expr (.mt .append J3 #[.tup #[J0,J6,.ite (.cmp .Is J2 (.con D.non)) J7 (.ix (.ix J2 J4) J7),J8]]) .nil) .nil) (.ret J3 .nil))),Ψ⟩
abbrev c_deliver:Fn:=⟨3,7,(.asg 3 .dnew (.forS [4] (.val J2) (.expr (.mt .append (.dsetI J3 (.ix J4 U2) (.lst .nil)) #[.tup #[.ix J4 U1,.ix J4 U3]]) .nil) (.forS [5,6] (.enum J1) (.expr (.meth "hear" [(0,25),(1,30)] J6 #[J0,.dgetI J3 J5 (.lst .nil)]) .nil) .nil))),Ψ⟩
abbrev c_crashes_of:Fn:=⟨2,5,(.asg 2 (.lst .nil) (.forS [3,4] (.enum J1) (.ifS (.or (.nt (.tst (.call 14 0 #[J4,J0]))) (.cmp .In (.ix J4 U0) (.mkL (.comp 1 [] [0] (.val J2) (.tst (.con (D.bl Γ))) (.ix J0 U0))))) (.rais 3 "NoLetter" "place" J3) .nil (.expr (.mt .append J2 #[J4]) .nil)) (.ret J2 .nil))),Ψ⟩
abbrev zez:Fn:=⟨2,2,(.ifS (.or (.nt (.tst (.bi (.isin "tuple") #[J0]))) (.cmp .NotEq (.bi .len #[J0]) U3)) (.ret (.con (D.bl Δ)) .nil) .nil (.ifS (.or (.nt (.tst (.call 1 0 #[.ix J0 U0,J1]))) (.nt (.tst (.call 6 0 #[.ix J0 U1])))) (.ret (.con (D.bl Δ)) .nil) .nil (.ret (.and (.bi (.isin "tuple") #[.ix J0 U2]) (.all (.comp 1 [1] [0] (.val (.ix J0 U2)) (.tst (.con (D.bl Γ))) (.call 1 0 #[J0,J1])))) .nil))),Ψ⟩
abbrev c_with_crashers:Fn:=⟨2,6,(.asg 2 (.mkL (.val J0)) (.forS [3,4,5] (.val J1) (.setIx J2 J3 (.mk 1 29 "Crasher" 0 #[.ix J0 J3,J4,J5]) .nil) (.ret J2 .nil))),Ψ⟩
abbrev zfd:Fn:=⟨2,2,(.ifS (.cmp .Lt J1 (.bi .len #[J0])) (.ret (.bin .Mod (.ix J0 J1) (.bin .Pow U10 U64)) .nil) .nil (.ret U0 .nil)),Ψ⟩
abbrev zb1:Fn:=⟨2,2,(.ifS (.or (.cmp .NotEq (.bi (.isin "bool") #[J0]) (.bi (.isin "bool") #[J1])) (.cmp .NotEq (.bi (.isin "int") #[J0]) (.bi (.isin "int") #[J1]))) (.ret (.con (D.bl Δ)) .nil) .nil (.ret (.cmp .Eq J0 J1) .nil)),Ψ⟩
abbrev zcA:Fn:=⟨3,6,(.asg 3 (.con D.non) (.tryS (.run 8 #[J0,J1])
 "RoundError" 4 3 (.asg 5 (.lst #[.iscX [1] "NoHand" J3,.iscX [2] "NoWord" J3,.iscX [3] "NoLetter" J3]) (.asg 5 (.bin .Add J5 (.lst #[.iscX [4] "NoWay" J3,.iscX [5] "NoRow" J3])) (.ifS (.or (.cmp .NotEq J5 (.rep (.lst #[.con (D.bl Δ)]) U5)) (.or (.nt (.tst (.iscX [0] "NoCount" J3))) (.nt (.tst (.iscX [0,1,2,3,4,5] "ValueError" J3))))) (.ret (.con (D.bl Δ)) .nil) .nil (.ret (.call 17 0 #[.fldX J3 "told",J2]) .nil)))))),Ψ⟩
abbrev c_law_spoiled:Fn:=⟨4,6,(.asg 4 (.lst #[J0,J1]) (.asg 5 (.con D.non) (.ifS (.cmp .Eq (.bin .Mod J2 U4) U1) (.setIx J4 U0 (.ix (.lst #[.bin .Add J1 U1,U8,.bin .Sub U0 U1,.con (D.bl Γ),.con D.non,.con (D.str "7"),.lst #[U7]]) (.bin .Mod (.bin .FloorDiv J2 U4) U7)) (.asg 5 (.ix J4 U0) .nil)) .nil (.ifS (.cmp .Eq (.bin .Mod J3 U4) U1) (.setIx J4 U1 (.ix (.lst #[U0,U6,.bin .Sub U0 U1,.con (D.bl Γ),.con D.non,.con (D.str "1"),.tup #[U1]]) (.bin .Mod (.bin .FloorDiv J3 U4) U7)) (.asg 5 (.ix J4 U1) .nil)) .nil (.ret (.tup #[.or (.cmp .Eq (.bin .Mod J2 U4) U1) (.cmp .Eq (.bin .Mod J3 U4) U1),J4,J5]) .nil))))),Ψ⟩
abbrev zdT:Fn:=⟨1,1,(.ret (.and (.bi (.isin "int") #[J0]) (.nt (.bi (.isin "bool") #[J0]))) .nil),Ψ⟩
abbrev zf9:Fn:=⟨1,1,(.ret (.and (.bi (.isin "tuple") #[J0]) (.and (.cmp .Eq (.bi .len #[J0]) U2) (.and (.call 20 0 #[.ix J0 U0]) (.call 20 0 #[.ix J0 U1])))) .nil),Ψ⟩
abbrev c_law:Fn:=⟨1,15,(.asg 1 (.bin .Add U1 (.bin .Mod (.call 16 0 #[J0,U0]) U5)) (.asg 2 (.bin .Add (.bin .Add J1 U2) (.bin .Mod (.bin .FloorDiv (.call 16 0 #[J0,U0]) U5) (.bin .Sub U6 J1))) (.asgT [3,4,5] (.call 19 0 #[J2,J1,.call 16 0 #[J0,U1],.call 16 0 #[J0,U2]]) (.ifS (.and (.tst J3) (.nt (.tst (.call 18 0 #[.ix J4 U0,.ix J4 U1,J5])))) (.ret (.con (D.bl Δ)) .nil) .nil (.asg 6 (.bin .Add (.bin .Sub (.bin .Mod (.call 16 0 #[J0,U3]) (.bin .Pow U10 U60)) (.bin .Pow U10 U60)) U1) (.asg 7 (.lst #[J6]) (.forS [8] (.rng2 U1 J2) (.expr (.mt .append J7 #[.bin .Add (.bin .Add J6 U1) (.bin .Mod (.call 16 0 #[J0,.bin .Add U3 J8]) (.ix (.lst #[.bin .Pow U10 U6,.bin .Pow U10 U59]) (.bin .Mod J8 U2)))]) .nil) (.blk (.asg 9 8 #[J2,J1]) (.ifS (.or (.cmp .NotEq J9 (.mkL (.comp 1 [] [0] (.rng1 J1) (.tst (.con (D.bl Γ))) (.tup #[J0,.bin .Add J0 U1,.tup #[.bin .Add J0 U1]])))) (.nt (.tst (.bi (.isin "list") #[J9])))) (.ret (.con (D.bl Δ)) .nil) .nil (.asg 10 (.mk 2 33 "Floods" 0 #[J2,J1,.mkL (.val J7),.mkL (.val J9),J1]) (.asg 11 (.mk 2 33 "Floods" 1 #[J2,J1,.mkL (.val J7),.mkL (.val J9)]) (.ifS (.or (.nt (.tst (.call 21 0 #[.meth "ended" [(0,24),(2,34)] J10 #[J1]]))) (.cmp .NotEq (.meth "ended" [(0,24),(2,34)] J10 #[J1]) (.tup #[J1,J6]))) (.ret (.con (D.bl Δ)) .nil) .nil (.forS [12] (.rng2 J1 J2) (.blk (.asgX 13 (.meth "ended" [(0,24),(2,34)] J10 #[J12])) (.ifS (.or (.nt (.tst (.call 21 0 #[J13]))) (.or (.cmp .NotIn (.ix J13 U1) J7) (.and (.cmp .Gt J12 J1) (.cmp .Eq (.ix J13 U1) J6)))) (.ret (.con (D.bl Δ)) .nil) .nil (.blk (.asgX 13 (.meth "ended" [(0,24),(2,34)] J11 #[J12])) (.ifS (.or (.nt (.tst (.call 21 0 #[J13]))) (.cmp .NotEq (.ix J13 U1) J6)) (.ret (.con (D.bl Δ)) .nil) .nil .nil)))) (.asg 14 (.mkL (.val J9)) (.expr (.mt .append J9 #[.ix J9 U0]) (.ret (.cmp .Eq (.call 8 0 #[J2,J1]) J14) .nil)))))))))))))))),Ψ⟩
abbrev zda:Fn:=⟨5,5,(.expr (.callC 37 "Hand" "__init__" #[J0,J1,J2,J3]) (.setF J0 "wordbook" (.dic1 J4 (.con (D.bl Γ))) (.setF J0 "hearings" (.lst .nil) (.setF J0 "end" (.con D.non) .nil)))),Ψ⟩
abbrev zcU:Fn:=⟨1,1,(.ret (.fld J0 "end") .nil),Ψ⟩
abbrev zdb:Fn:=⟨3,7,(.asg 3 (.ite (.tst (.fld J0 "hearings")) (.ix (.fld J0 "hearings") (.neg U1)) (.mkT (.rng1 (.fld J0 "many")))) (.asg 4 (.lst #[.fld J0 "number"]) (.forS [5,6] (.val J2) (.ifS (.cmp .IsNot J6 (.con D.non)) (.expr (.mt .append J4 #[.ix J5 (.neg U1)]) (.expr (.meth "learn" [(0,27)] J0 #[J6]) .nil)) .nil .nil) (.expr (.mt .append (.fld J0 "hearings") #[.mkT (.val (.sset J4))]) (.ifS (.and (.cmp .Is (.fld J0 "end") (.con D.non)) (.or (.cmp .Eq (.ix (.fld J0 "hearings") (.neg U1)) J3) (.cmp .GtE J1 (.fld J0 "rounds")))) (.setF J0 "end" (.tup #[J1,.min1 (.meth "known" [(0,26),(2,36)] J0 .nil)]) .nil) .nil .nil))))),Ψ⟩
abbrev zcT:Fn:=⟨1,1,(.ret (.dsrt (.fld J0 "wordbook")) .nil),Ψ⟩
abbrev zcS:Fn:=⟨2,3,(.forS [2] (.val J1) (.setIx (.fld J0 "wordbook") J2 (.con (D.bl Γ)) .nil) .nil),Ψ⟩
abbrev zdV:Fn:=⟨2,3,(.asg 2 (.mkT (.val (.meth "known" [(0,26),(2,36)] J0 .nil))) (.ret (.mkL (.comp 1 [2,0] [0] (.rng1 (.fld J0 "many")) (.cmp .NotEq J0 (.fld J2 "number")) (.tup #[.tup #[.fld J2 "number"],J0,J1]))) .nil)),Ψ⟩
abbrev zed:Fn:=⟨4,4,(.expr (.callC 37 "Hand" "__init__" #[J0,.fld J1 "number",.fld J1 "many",.fld J1 "rounds"]) (.setF J0 "inner" J1 (.setF J0 "last" J2 (.setF J0 "reached" (.mkT (.val J3)) .nil)))),Ψ⟩
abbrev zee:Fn:=⟨3,3,(.ifS (.cmp .Lt J1 (.fld J0 "last")) (.expr (.meth "hear" [(0,25),(1,30)] (.fld J0 "inner") #[J1,J2]) .nil) .nil .nil),Ψ⟩
abbrev zcV:Fn:=⟨3,3,(.ret (.or (.cmp .Lt J1 (.fld J0 "last")) (.and (.cmp .Eq J1 (.fld J0 "last")) (.cmp .In J2 (.fld J0 "reached")))) .nil),Ψ⟩
abbrev zfe:Fn:=⟨2,2,(.ret (.mkL (.comp 3 [1,0] [0,1,2] (.val (.meth "say" [(0,28),(1,32)] (.fld J0 "inner") #[J1])) (.tst (.con (D.bl Γ))) (.tup #[J0,J1,.ite (.tst (.meth "reaches" [(1,31)] J4 #[J3,J1])) J2 (.con D.non)]))) .nil),Ψ⟩
abbrev c_Floods_init:Fn:=⟨6,10,(.blk (.run 3 #[J1,U1,U7]) (.blk (.run 3 #[J2,U0,U5]) (.ifS (.cmp .NotEq (.bi .len #[J3]) J1) (.rais 0 "NoCount" "told" (.bi .len #[J3])) .nil (.blk (.comp 6 1 [] [0] (.val J3) 5 #[J0]) (.blk (.asgX 7 (.ite (.cmp .Is J4 (.con D.non)) (.val (.lst .nil)) (.call 13 #[J1,J4]))) (.blk (.asg 8 7 #[J5,J2]) (.asg 9 (.mkL (.comp 2 [1,8] [0,1] (.enum J6) (.tst (.con (D.bl Γ))) (.mk 0 23 "FloodHand" 0 #[J0,J2,J3,J1]))) (.expr (.callC 38 "Play" "__init__" #[J0,J9,.call 15 0 #[J9,J7],J8]) .nil)))))))),Ψ⟩
abbrev zcb:Fn:=⟨2,2,(.retX (.on (.meth "hand_at" [(2,35)] J0 #[J1]) "ended" [(0,24),(2,34)]) .nil),Ψ⟩
abbrev zca:Fn:=⟨2,2,(.retX (.ix (.fld J0 "hands") (.call 4 #[J1,.bi .len #[.fld J0 "hands"]])) .nil),Ψ⟩
abbrev zec:Fn:=⟨2,2,(.retX (.on (.meth "hand_at" [(2,35)] J0 #[J1]) "known" [(0,26),(2,36)]) .nil),Ψ⟩
abbrev zgX:Fn:=⟨4,4,(.setF J0 "number" J1 (.setF J0 "many" J2 (.setF J0 "rounds" J3 .nil))),Ψ⟩
abbrev zgW:Fn:=⟨4,4,(.setF J0 "hands" J1 (.setF J0 "sent" (.callW 10 1 #[J2,J3]) .nil)),Ψ⟩
abbrev prog:List Fn:=[zbu,zgc,zga,zcR,zdU,zdS,zgb,zcj,c_short_floods,c_look_at_counts,zsw,c_said_in,c_deliver,c_crashes_of,zez,c_with_crashers,zfd,zb1,zcA,c_law_spoiled,zdT,zf9,c_law,zda,zcU,zdb,zcT,zcS,zdV,zed,zee,zcV,zfe,c_Floods_init,zcb,zca,zec,zgX,zgW]
abbrev top(i:Nat):Stmt:=PySem.Challenge.pw_traitorround_k79_short_floods.main.body.getD i (.Pass ⟨0,0,0,0⟩)
noncomputable abbrev zgx:Stmt:=top 10
noncomputable abbrev zin:Stmt:=top 11
noncomputable abbrev zil:Stmt:=top 12
noncomputable abbrev zgz:Stmt:=top 13
noncomputable abbrev zio:Stmt:=top 14
noncomputable abbrev zii:Stmt:=top 15
noncomputable abbrev zim:Stmt:=top 21
noncomputable abbrev zfy:Stmt:=top 22
noncomputable abbrev zdw:Stmt:=top 24
noncomputable abbrev zcH:Stmt:=top 25
noncomputable abbrev zhl:Stmt:=top 30
noncomputable abbrev zij:Stmt:=top 31
noncomputable abbrev ziq:Stmt:=top 32
noncomputable abbrev zeP:Stmt:=top 36
noncomputable abbrev zgy:Stmt:=top 37
noncomputable abbrev zc6:Stmt:=top 40
noncomputable abbrev zd2:Stmt:=top 42
noncomputable abbrev zgw:Stmt:=top 43
noncomputable abbrev zd1:Stmt:=top 44
noncomputable abbrev zd0:Stmt:=top 45
noncomputable abbrev zfz:Stmt:=top 46
noncomputable abbrev zik:Stmt:=top 47
noncomputable abbrev zq6:Stmt:=top 48
set_option backward.match.sparseCases false in
abbrev zbs(s:Stmt)(j:Nat):Stmt:=match s with|.ClassDef _ _ _ b _ _ _ _ _ _ _=>b.getD j (.Pass ⟨0,0,0,0⟩)|s=>s
noncomputable abbrev zcI:Stmt:=zbs (top 38) 0
noncomputable abbrev zcq:Stmt:=zbs (top 38) 6
noncomputable abbrev zcJ:Stmt:=zbs (top 38) 2
noncomputable abbrev zcp:Stmt:=zbs (top 38) 4
noncomputable abbrev zco:Stmt:=zbs (top 38) 3
noncomputable abbrev zc8:Stmt:=zbs (top 38) 1
noncomputable abbrev zdB:Stmt:=zbs (top 28) 0
noncomputable abbrev zdC:Stmt:=zbs (top 28) 3
noncomputable abbrev zcr:Stmt:=zbs (top 28) 2
noncomputable abbrev zd6:Stmt:=zbs (top 28) 1
noncomputable abbrev zd5:Stmt:=zbs (top 39) 0
noncomputable abbrev zdA:Stmt:=zbs (top 39) 3
noncomputable abbrev zdx:Stmt:=zbs (top 34) 1
noncomputable abbrev zdz:Stmt:=zbs (top 39) 1
noncomputable abbrev zfB:Stmt:=zbs (top 27) 0
noncomputable abbrev zfA:Stmt:=zbs (top 34) 0
noncomputable abbrev zdy:Stmt:=zbs (top 3) 0
def ox_NoCount:OkX "NoCount.__init__" zdy "RoundError" "told" "told":=⟨⟨⟨_,_,_,_,_,_,_,_,_,_,_,_,rfl,rfl⟩,⟨rfl,rfl,rfl,by decide +kernel,rfl,by decide +kernel,by decide +kernel⟩,rfl,rfl,rfl,rfl,⟨rfl,rfl⟩⟩,λ_ _ _ _ _ _=>usS λ_=>usS λ_=>usZ rfl⟩
noncomputable abbrev zd4:Stmt:=zbs (top 4) 0
def ox_NoHand:OkX "NoHand.__init__" zd4 "RoundError" "hand" "hand":=⟨⟨⟨_,_,_,_,_,_,_,_,_,_,_,_,rfl,rfl⟩,⟨rfl,rfl,rfl,by decide +kernel,rfl,by decide +kernel,by decide +kernel⟩,rfl,rfl,rfl,rfl,⟨rfl,rfl⟩⟩,λ_ _ _ _ _ _=>usS λ_=>usS λ_=>usZ rfl⟩
noncomputable abbrev zd3:Stmt:=zbs (top 5) 0
def ox_NoWord:OkX "NoWord.__init__" zd3 "RoundError" "word" "word":=⟨⟨⟨_,_,_,_,_,_,_,_,_,_,_,_,rfl,rfl⟩,⟨rfl,rfl,rfl,by decide +kernel,rfl,by decide +kernel,by decide +kernel⟩,rfl,rfl,rfl,rfl,⟨rfl,rfl⟩⟩,λ_ _ _ _ _ _=>usS λ_=>usS λ_=>usZ rfl⟩
noncomputable abbrev zc7:Stmt:=zbs (top 6) 0
def ox_NoLetter:OkX "NoLetter.__init__" zc7 "RoundError" "place" "place":=⟨⟨⟨_,_,_,_,_,_,_,_,_,_,_,_,rfl,rfl⟩,⟨rfl,rfl,rfl,by decide +kernel,rfl,by decide +kernel,by decide +kernel⟩,rfl,rfl,rfl,rfl,⟨rfl,rfl⟩⟩,λ_ _ _ _ _ _=>usS λ_=>usS λ_=>usZ rfl⟩
noncomputable instance mks:R.Mks:={ts:=[(306,"run.<locals>.<lambda>")],cl:=[448,301,487],xc:=[51,70,89,108,127,146]}
abbrev tab:Tab:=⟨["abs","all","bool","enumerate","int","isinstance","len","list","min","range","set","sorted","tuple"],[("MOST_HANDS",(D.int 7)),("GREATEST_BOUND",(D.int 5)),("LAST_TURN",(D.int 30)),("MOST_ROUNDS",(D.int 8))],("is_whole",["thing"],0)::("is_hand",["thing","many"],0)::("is_word",["thing"],0)::("count_of",["thing","least","greatest"],0)::("hand_of",["thing","many"],0)::("word_of",["thing"],0)::("is_turn",["thing"],0)::("rounds_of",["told","bound"],0)::("short_floods",["many","bound"],0)::("look_at_counts",["many","bound"],0)::("run",["hands","rounds","wires"],1)::("said_in",["turn","hands","wires"],0)::("deliver",["turn","hands","said"],0)::("crashes_of",["many","crashes"],0)::("is_crash",["thing","many"],0)::("with_crashers",["hands","crashes"],0)::("_law_cell_at",["_law_script","_law_k"],0)::("_law_same",["_law_one","_law_other"],0)::("_law_refused",["_law_many","_law_bound","_law_thing"],0)::("_law_spoiled",["_law_many","_law_bound","_law_cell","_law_more"],0)::("_law_whole",["_law_found"],0)::("_law_end",["_law_found"],0)::("law",["_law_script"],0)::[],["FloodHand","Crasher","Floods"],["number","many","rounds","inner","last","reached","hands","sent","wordbook","hearings","end"],[(0,"ended",24),(2,"ended",34),(2,"hand_at",35),(0,"hear",25),(1,"hear",30),(0,"known",26),(2,"known",36),(0,"learn",27),(1,"reaches",31),(0,"say",28),(1,"say",32)],[(1,29,0),(2,33,1),(2,33,0),(0,23,0)],[("Hand","__init__",37),("Play","__init__",38)],[],["hands","rounds","wires","letters","turn","said"],306,[(0,"NoCount","told"),(1,"NoHand","hand"),(2,"NoWord","word"),(3,"NoLetter","place")],["told"],[("NoCount",[0]),("NoRow",[5]),("NoWay",[4]),("NoLetter",[3]),("NoWord",[2]),("NoHand",[1])],[("ValueError",[0,1,2,3,4,5])],[3,9,8,7,13,5,4],["RoundError"]⟩
def us1{b:Type}{P:List b->Prop}(h:∀a,P [a]):∀us:List b,us.length=1->P us | [a],_=>h a
def us2{c:Type}{P:List c->Prop}(h:∀a b,P [a,b]):∀us:List c,us.length=2->P us | [a,b],_=>h a b
def us3{d:Type}{P:List d->Prop}(h:∀a b c,P [a,b,c]):∀us:List d,us.length=3->P us | [a,b,c],_=>h a b c
def us4{e:Type}{P:List e->Prop}(h:∀a b c d,P [a,b,c,d]):∀us:List e,us.length=4->P us | [a,b,c,d],_=>h a b c d
def us5{f:Type}{P:List f->Prop}(h:∀a b c d e,P [a,b,c,d,e]):∀us:List f,us.length=5->P us | [a,b,c,d,e],_=>h a b c d e
def us6{g:Type}{P:List g->Prop}(h:∀a b c d e f,P [a,b,c,d,e,f]):∀us:List g,us.length=6->P us | [a,b,c,d,e,f],_=>h a b c d e f
def O28:OkD tab prog 0 "is_whole" "is_whole" ["thing"] zgx:=zav ["thing"] rfl (by decide +kernel) λ_ _ _ _ _ _=>us1 λ_=>rfl
def O33:OkD tab prog 1 "is_hand" "is_hand" ["thing","many"] zin:=zav ["thing","many"] rfl (by decide +kernel) λ_ _ _ _ _ _=>us2 λ_ _=>rfl
def O34:OkD tab prog 2 "is_word" "is_word" ["thing"] zil:=zav ["thing"] rfl (by decide +kernel) λ_ _ _ _ _ _=>us1 λ_=>rfl
def O25:OkD tab prog 3 "count_of" "count_of" ["thing","least","greatest"] zgz:=zav ["thing","least","greatest"] rfl (by decide +kernel) λ_ _ _ _ _ _=>us3 λ_ _ _=>rfl
def O30:OkD tab prog 4 "hand_of" "hand_of" ["thing","many"] zio:=zav ["thing","many"] rfl (by decide +kernel) λ_ _ _ _ _ _=>us2 λ_ _=>rfl
def O31:OkD tab prog 5 "word_of" "word_of" ["thing"] zii:=zav ["thing"] rfl (by decide +kernel) λ_ _ _ _ _ _=>us1 λ_=>rfl
def O35:OkD tab prog 6 "is_turn" "is_turn" ["thing"] zim:=zav ["thing"] rfl (by decide +kernel) λ_ _ _ _ _ _=>us1 λ_=>rfl
def O21:OkD tab prog 7 "rounds_of" "rounds_of" ["told","bound"] zfy:=zav ["told","bound"] rfl (by decide +kernel) λ_ _ _ _ _ _=>us2 λ_ _=>rfl
def O10:OkD tab prog 8 "short_floods" "short_floods" ["many","bound"] zdw:=zav ["many","bound"] rfl (by decide +kernel) λ_ _ _ _ _ _=>us2 λ_ _=>rfl
def O5:OkD tab prog 9 "look_at_counts" "look_at_counts" ["many","bound"] zcH:=zav ["many","bound"] rfl (by decide +kernel) λ_ _ _ _ _ _=>us2 λ_ _=>rfl
def O38:OkL tab prog 10 "run" ["hands","rounds","wires"] 1 zhl:=zrI rfl rfl (by decide +kernel)
def O29:OkD tab prog 11 "said_in" "said_in" ["turn","hands","wires"] zij:=zav ["turn","hands","wires","said","place","hand","path","to","word"] rfl (by decide +kernel) λ_ _ _ _ _ _=>us3 λ_ _ _=>rfl
def O32:OkD tab prog 12 "deliver" "deliver" ["turn","hands","said"] ziq:=zav ["turn","hands","said","boxes","letter","place","hand"] rfl (by decide +kernel) λ_ _ _ _ _ _=>us3 λ_ _ _=>rfl
def O20:OkD tab prog 13 "crashes_of" "crashes_of" ["many","crashes"] zeP:=zav ["many","crashes","told","place","thing"] rfl (by decide +kernel) λ_ _ _ _ _ _=>us2 λ_ _=>rfl
def O27:OkD tab prog 14 "is_crash" "is_crash" ["thing","many"] zgy:=zav ["thing","many"] rfl (by decide +kernel) λ_ _ _ _ _ _=>us2 λ_ _=>rfl
def O7:OkD tab prog 15 "with_crashers" "with_crashers" ["hands","crashes"] zc6:=zav ["hands","crashes","town","hand","turn","reached"] rfl (by decide +kernel) λ_ _ _ _ _ _=>us2 λ_ _=>rfl
def O19:OkD tab prog 16 "_law_cell_at" "_law_cell_at" ["_law_script","_law_k"] zd2:=zav ["_law_script","_law_k"] rfl (by decide +kernel) λ_ _ _ _ _ _=>us2 λ_ _=>rfl
def O26:OkD tab prog 17 "_law_same" "_law_same" ["_law_one","_law_other"] zgw:=zav ["_law_one","_law_other"] rfl (by decide +kernel) λ_ _ _ _ _ _=>us2 λ_ _=>rfl
def O17:OkD tab prog 18 "_law_refused" "_law_refused" ["_law_many","_law_bound","_law_thing"] zd1:=zav ["_law_many","_law_bound","_law_thing","_law_caught","e","_law_flags"] rfl (by decide +kernel) λ_ _ _ _ _ _=>us3 λ_ _ _=>rfl
def O15:OkD tab prog 19 "_law_spoiled" "_law_spoiled" ["_law_many","_law_bound","_law_cell","_law_more"] zd0:=zav ["_law_many","_law_bound","_law_cell","_law_more","_law_told","_law_thing"] rfl (by decide +kernel) λ_ _ _ _ _ _=>us4 λ_ _ _ _=>rfl
def O23:OkD tab prog 20 "_law_whole" "_law_whole" ["_law_found"] zfz:=zav ["_law_found"] rfl (by decide +kernel) λ_ _ _ _ _ _=>us1 λ_=>rfl
def O36:OkD tab prog 21 "_law_end" "_law_end" ["_law_found"] zik:=zav ["_law_found"] rfl (by decide +kernel) λ_ _ _ _ _ _=>us1 λ_=>rfl
def O37:OkD tab prog 22 "law" "law" ["_law_script"] zq6:=zav ["_law_script","_law_bound","_law_many","_law_bad","_law_told","_law_thing","_law_low","_law_words","_law_k","_law_crashes","_law_play","_law_later","_law_hand","_law_end_here","_law_kept"] rfl (by decide +kernel) λ_ _ _ _ _ _=>us1 λ_=>rfl
def O4:OkD tab prog 23 "__init__" "FloodHand.__init__" ["self","number","many","rounds","word"] zcI:=zav ["self","number","many","rounds","word"] rfl (by decide +kernel) λ_ _ _ _ _ _=>us5 λ_ _ _ _ _=>rfl
def O2:OkD tab prog 24 "ended" "FloodHand.ended" ["self"] zcq:=zav ["self"] rfl (by decide +kernel) λ_ _ _ _ _ _=>us1 λ_=>rfl
def O6:OkD tab prog 25 "hear" "FloodHand.hear" ["self","turn","letters"] zcJ:=zav ["self","turn","letters","before","writers","path","words"] rfl (by decide +kernel) λ_ _ _ _ _ _=>us3 λ_ _ _=>rfl
def O3:OkD tab prog 26 "known" "FloodHand.known" ["self"] zcp:=zav ["self"] rfl (by decide +kernel) λ_ _ _ _ _ _=>us1 λ_=>rfl
def O0:OkD tab prog 27 "learn" "FloodHand.learn" ["self","words"] zco:=zav ["self","words","word"] rfl (by decide +kernel) λ_ _ _ _ _ _=>us2 λ_ _=>rfl
def O8:OkD tab prog 28 "say" "FloodHand.say" ["self","turn"] zc8:=zav ["self","turn","words"] rfl (by decide +kernel) λ_ _ _ _ _ _=>us2 λ_ _=>rfl
def O13:OkD tab prog 29 "__init__" "Crasher.__init__" ["self","inner","last","reached"] zdB:=zav ["self","inner","last","reached"] rfl (by decide +kernel) λ_ _ _ _ _ _=>us4 λ_ _ _ _=>rfl
def O11:OkD tab prog 30 "hear" "Crasher.hear" ["self","turn","letters"] zdC:=zav ["self","turn","letters"] rfl (by decide +kernel) λ_ _ _ _ _ _=>us3 λ_ _ _=>rfl
def O1:OkD tab prog 31 "reaches" "Crasher.reaches" ["self","turn","to"] zcr:=zav ["self","turn","to"] rfl (by decide +kernel) λ_ _ _ _ _ _=>us3 λ_ _ _=>rfl
def O18:OkD tab prog 32 "say" "Crasher.say" ["self","turn"] zd6:=zav ["self","turn"] rfl (by decide +kernel) λ_ _ _ _ _ _=>us2 λ_ _=>rfl
def O16:OkE tab prog 33 ["self","many","bound","words","crashes","rounds"] zd5:=zrJ ["self","many","bound","words","crashes","rounds","begun","told","turns","hands"] rfl (by decide +kernel)
def O9:OkD tab prog 34 "ended" "Floods.ended" ["self","hand"] zdA:=zav ["self","hand"] rfl (by decide +kernel) λ_ _ _ _ _ _=>us2 λ_ _=>rfl
def O14:OkD tab prog 35 "hand_at" "Play.hand_at" ["self","thing"] zdx:=zav ["self","thing"] rfl (by decide +kernel) λ_ _ _ _ _ _=>us2 λ_ _=>rfl
def O12:OkD tab prog 36 "known" "Floods.known" ["self","hand"] zdz:=zav ["self","hand"] rfl (by decide +kernel) λ_ _ _ _ _ _=>us2 λ_ _=>rfl
def O22:OkD tab prog 37 "__init__" "Hand.__init__" ["self","number","many","rounds"] zfB:=zav ["self","number","many","rounds"] rfl (by decide +kernel) λ_ _ _ _ _ _=>us4 λ_ _ _ _=>rfl
def O24:OkD tab prog 38 "__init__" "Play.__init__" ["self","hands","town","rounds"] zfA:=zav ["self","hands","town","rounds"] rfl (by decide +kernel) λ_ _ _ _ _ _=>us4 λ_ _ _ _=>rfl
end
section
open R
def zbG(h:P[f]?=Φ F)(a:ds.length=F.np)(w:W (exS (callF P n) F.body (zar F ds) S) λr T=>match r with|.nx _=>Q .non T|.rt d=>Q d T|.ex _=>False)(b:F.prim=Ψ:=by rfl):W (appW (callF P (n+1)) f ds S) Q:=by unfold appW;simp[callF,h,a,b];refine w.mono λr T q=>?_;cases r<;>first|exact q|exact q.elim
def zfi(h:P[f]?=Φ F)(a:ds.length=F.np)(w:wS (callF P n) F.body (zar F ds) S λr T=>match r with|.nx _=>D.non=d/\T=S'|.rt z=>z=d/\T=S'|.ex _=>False)(b:F.prim=Ψ:=by rfl):appW (callF P (n+1)) f ds S=.ok d S':=by refine W.eq (zbG h a ((wS_W _ w).mono λr T q=>?_) b);cases r<;>first|exact q|exact q.elim
def zaI(e:S.get a=Φ (.ins c b)):zbo S (.ref a)=Φ (c,b):=by unfold zbo;dsimp only;rw[e]
def zbM(e:S.get a=Φ (.ins c b))(g:b.lookup f=Φ v):((zbo S (.ref a)).bind λp=>p.2.lookup f)=Φ v:=by rw[zaI e];exact g
def plen(S:R.St)(o:MO):(S.push o).len=S.len+1:=by simp[St.push,St.len];lia
structure Mv(A:List Nat)(S T:R.St):Prop where
 frz:T.frz=S.frz
 lk:T.lk=S.lk
 len:S.len<=T.len
 old:∀m o,m∉A->S.get m=Φ o->T.get m=Φ o
def Mv.refl(A:List Nat)(S:R.St):Mv A S S:=⟨rfl,rfl,le_refl _,λ_ _ _ h=>h⟩
def Mv.trans(a:Mv A S T)(b:Mv A T U):Mv A S U:=⟨b.frz.trans a.frz,b.lk.trans a.lk,le_trans a.len b.len,λm o h e=>b.old m o h (a.old m o h e)⟩
def Mv.push(A:List Nat)(S:R.St)(o:MO):Mv A S (S.push o):=⟨rfl,rfl,by rw[plen];lia,λ_ _ _ e=>zad e⟩
def Mv.up(h:Mv A S T)(s:∀m,m∈A->m∈B):Mv B S T:=⟨h.frz,h.lk,h.len,λm o a e=>h.old m o (λz=>a (s m z)) e⟩
structure Fr(S:R.St)(a:Nat):Prop where
 f:S.frz.length<=a
 k:S.lk.contains a=Δ
def Fr.mv(h:Fr S a)(v:Mv A S T):Fr T a:=⟨by rw[v.frz];exact h.f,by rw[v.lk];exact h.k⟩
def zbd(e:S.get a=Φ (.ins c b))(hf:Fr S a)(d:b.length<1000)(g:zjC f v b=gs):∃T,zb6 S (.ref a) f v=Φ T/\Mv [a] S T/\T.get a=Φ (.ins c gs):=by let⟨T,h,i,j,p,k,l⟩:=zeQ (.ins c gs) hf.f hf.k;refine⟨T,?_,⟨i,j,by lia,λm o n e=>by rw[k m (by simpa using n)];exact e⟩,l (zak e)⟩;unfold zb6;dsimp only;rw[e];dsimp only;rw[if_pos d,g,h]
def zb3(h:evE cf e δ S=.ok d S')(w:W (exS cf r (δ.set i (Φ d)) S') Q):W (exS cf (.asg i e r) δ S) Q:=by show W (Out.bind _ _) _;rw[h];exact w
def zdY(h:W (evE cf e δ S) λd S'=>W (exS cf r (δ.set i (Φ d)) S') Q):W (exS cf (.asg i e r) δ S) Q:=by show W (Out.bind _ _) _;rw[zab];exact h
def zkJ(h:W (evE cf e δ S) λd S'=>W (exS cf r δ S') Q):W (exS cf (.expr e r) δ S) Q:=by show W (Out.bind _ _) _;rw[zab];exact h
def zcz(w:W (evT cf c δ S) λk S1=>k=Δ/\W (exS cf r δ S1) Q):W (exS cf (.ifS c u .nil r) δ S) Q:=by show W (Out.bind _ _) _;rw[zab];refine w.mono λk S1 a=>?_;let⟨rfl,b⟩:=a;exact b
def zap(S:R.St)(o:MO):(S.push o).get S.len=Φ o:=zan S o
def zjU(u:Mv (T.len::A) (T.push o) U):Mv A T U:=
 ⟨u.frz,u.lk,by have:=u.len;rw[plen]at this;lia,λm x a e=>u.old m x (by
  intro z;rcases mem_cons.mp z with z|z;have:=zak e;lia;exact a z) (zad e)⟩
def zbF(hf:Fr T l)(e:T.get l=Φ o):∃U,T.put l u=Φ U/\Mv [l] T U/\U.get l=Φ u:=by let⟨U,a,b,c,h,d,f⟩:=zeQ u hf.f hf.k;exact⟨U,a,⟨b,c,by lia,λm x g e=>by rw[d m (by simpa using g)];exact e⟩,f (zak e)⟩
noncomputable abbrev pD(p:List Int):D:=.tup (p.map .int)
abbrev kvD(K:List Int):List (Int×D):=K.map λk=>(k,.bl Γ)
abbrev eD:Option (Int×Int)->D|none=>.non|some e=>.tup [.int e.1,.int e.2]
abbrev hD(i m r:Int)(a b:Nat)(e:Option (Int×Int)):MO:=.ins 0 [("number",.int i),("many",.int m),("rounds",.int r),("wordbook",.ref a),("hearings",.ref b),("end",eD e)]
abbrev ad(K:List Int)(k:Int):List Int:=if k∈K then K else K++[k]
abbrev ads(K ws:List Int):List Int:=ws.foldl ad K
def zmY:∀(K:List Int)(k:Int),putI (kvD K) k (.bl Γ)=kvD (ad K k)
 | [],k=>by simp[ad,kvD,putI]| j::K,k=>by have a:=zmY K k;unfold kvD at a⊢;rw[Υ];unfold putI;by_cases z:j=k;subst z;simp[ad];rw[if_neg z,a];unfold ad;by_cases h:k∈K;rw[if_pos h,if_pos (Μ _ h)];rfl;rw[if_neg h,if_neg (by rintro(_|⟨_,y⟩);exact z rfl;exact h y)];rfl
structure Sb(ws K:List Int):Prop where
 nd:K.Nodup
 sub:∀x∈K,x∈ws
def zeV:∀{K ws:List Int},K.Nodup->(∀x∈K,x∈ws)->K.length<=ws.length
 | [],ws,_,_=>zero_le _| x::K,ws,f,b=>by have a:=nodup_cons.mp f;have c:=b x Ν;have:=zeV a.2 λy d=>(List.mem_erase_of_ne (λe:y=x=>a.1 (e▸d))).mpr (b y (Μ _ d));rw[List.length_erase_of_mem c]at this;have g:=List.length_pos_of_mem c;rw[ϊ];lia
def Sb.len(h:Sb ws K):K.length<=ws.length:=zeV h.nd h.sub
def Sb.ad(h:Sb ws K)(hk:k∈ws):Sb ws (ad K k):=by unfold Kz.ad;split;exact h;rename_i n;refine⟨nodup_append.mpr ⟨h.nd,by simp,λa ha b hb e=>?_⟩,λx hx=>?_⟩;simp at hb;subst hb;subst e;exact n ha;rcases mem_append.mp hx with z|z;exact h.sub x z;simp at z;subst z;exact hk
def Sb.ads:∀{p K:List Int},Sb ws K->(∀w∈p,w∈ws)->Sb ws (ads K p)
 | [],_,h,_=>h|w::p,K,h,hp=>Sb.ads (p:=p) (h.ad (hp w Ν)) λx hx=>hp x (Μ _ hx)
def zrO:x∈ad K k↔x∈K\/x=k:=by unfold ad;split;rename_i h;exact⟨.inl,λz=>z.elim id λe=>e▸h⟩;simp
def zjX:∀{p K:List Int},x∈ads K p↔x∈K\/x∈p
 | [],K=>by simp[ads]| w::p,K=>by show x∈ads (ad K w) p↔_;rw[zjX,zrO,mem_cons,or_assoc]
def zpw(h:S.get l=Φ (.dic (kvD K))):dicI S (.ref l)=Φ K:=by unfold dicI;dsimp only;rw[h];simp[kvD,Function.comp_def]
def zpv(h:S.get l=Φ (.dic (kvD K)))(hf:Fr S l)(b:K.length<=1000):∃T,dPut S (.ref l) (.int k) (.bl Γ)=Φ T/\Mv [l] S T/\T.get l=Φ (.dic (kvD (ad K k))):=by let⟨T,a,v,g⟩:=zbF hf h;refine⟨T,?_,v,g⟩;unfold dPut;dsimp only;rw[h];dsimp only;rw[show zbz (.int k)=Φ k from rfl,Ϛ,if_pos (by simp[kvD];lia),zmY,a]
section
variable{S:R.St}{a wb hr n:Nat}{i m r:Int}{en:Option (Int×Int)}{K ws:List Int}
def zdi(e:S.get a=Φ (hD i m r wb hr en)):((zbo S (.ref a)).bind λp=>p.2.lookup ("number":PySem.Str))=Φ (.int i):=zbM e rfl
def zkG(e:S.get a=Φ (hD i m r wb hr en)):((zbo S (.ref a)).bind λp=>p.2.lookup ("many":PySem.Str))=Φ (.int m):=zbM e rfl
def zhP(e:S.get a=Φ (hD i m r wb hr en)):((zbo S (.ref a)).bind λp=>p.2.lookup ("rounds":PySem.Str))=Φ (.int r):=zbM e rfl
def zew(e:S.get a=Φ (hD i m r wb hr en)):((zbo S (.ref a)).bind λp=>p.2.lookup ("wordbook":PySem.Str))=Φ (.ref wb):=zbM e rfl
def zbt(e:S.get a=Φ (hD i m r wb hr en)):((zbo S (.ref a)).bind λp=>p.2.lookup ("hearings":PySem.Str))=Φ (.ref hr):=zbM e rfl
def zsl(e:S.get a=Φ (hD i m r wb hr en)):((zbo S (.ref a)).bind λp=>p.2.lookup ("end":PySem.Str))=Φ (eD en):=zbM e rfl
def zcm(l:List Int):(zaq l).length=l.length:=(zas l).length_eq
def zjZ(e:S.get a=Φ (hD i m r wb hr en))(g:S.get wb=Φ (.dic (kvD K)))(b:K.length<64):appW (callF prog (n+1)) 26 [.ref a] S=.ok (.ref S.len) (S.push (.lst ((zaq K).map .int))):=by
 apply zfi rfl rfl;exists zew e;exists zpw g;change b;change by rw[length_map,zcm];lia
 exact⟨rfl,rfl⟩
def zo0(e:S.get a=Φ (hD i m r wb hr en)):appW (callF prog (n+1)) 24 [.ref a] S=.ok (eD en) S:=by apply zfi rfl rfl;exists zsl e;exact⟨rfl,rfl⟩
def zj4(h:T.lk=l):({T with lk:=l}:R.St)=T:=by subst h;rfl
def zmG:ads K (p++[w])=ad (ads K p) w:=by unfold ads;rw[List.foldl_append];rfl
def zoX(e:S.get a=Φ (hD i m r wb hr en))(g:S.get wb=Φ (.dic (kvD K)))(hf:Fr S wb)(hs:Sb ws K)(hw:ws.length<=1000)(o:∀w∈p,w∈ws) :
  W (appW (callF prog (n+1)) 27 [.ref a,pD p] S) λd T=>Mv [wb] S T/\T.get wb=Φ (.dic (kvD (ads K p))):=by
 have q:a≠wb:=λz=>by rw[z,g]at e;cases e
 refine zbG rfl rfl (wS_W _ ?_);apply zbj;refine W.mono (zcB (λj h T=>∃v,h=[Φ (.ref a),Φ (pD p),v]/\Mv [wb] S T/\T.get wb=Φ (.dic (kvD (ads K (p.take j))))) (λ_ _=>False) _ 0 _ _ ⟨Ψ,rfl,Mv.refl _ _,by exact g⟩ ?_) ?_;rintro j z h T c ⟨v,rfl,b,gt⟩;rw[zero_add]at gt⊢;rw[getElem?_map]at c;cases k:p[j]? with
 |none=>rw[k]at c;exact nS c
 |some w=>rw[k]at c;cases c;refine⟨_,rfl,wS_W _ ?_⟩;exists zew (b.old _ _ (by simpa using q) e);have s:Sb ws (ads K (p.take j)):=hs.ads λx t=>o x (List.mem_of_mem_take t);have:=s.len;let⟨U,u,y,A⟩:=zpv gt (hf.mv b) (by lia);exists u;refine⟨_,rfl,b.trans y,?_⟩;rw[zdm k,zmG];exact A
 rintro f T l;cases f with|rt d=>exact l.elim|ex d=>exact l.elim| nx h=>let⟨v,rfl,b,gt⟩:=l;rw[zero_add,length_map,List.take_length]at gt;rw[zj4 b.lk];exact⟨b,gt⟩
abbrev oths(m:Nat)(i:Int):List Int:=(hnds m).filter λo=>!decide (o=i)
abbrev rowD(i:Int)(k:List Int)(o:Int):D:=.tup [.tup [.int i],.int o,pD k]
def zhf(n:Nat):((List.range (n:Int).toNat).map λ(k:Nat)=>D.int k)=(hnds n).map D.int:=by unfold hnds;rw[ϒ];rfl
def zkE(m:Nat)(i:Int)(f:Int->D)(q:D->Bool)(g:D->D)(h:∀o,q (.int o) = !decide (o=i))(b:∀o,g (.int o)=f o):(((hnds m).map D.int).filter q).map g=(oths m i).map f:=by unfold oths;rw[List.filter_map,ϒ];have c:(q∘D.int)=λo=>!decide (o=i):=funext h;have d:(g∘D.int)=f:=funext b;rw[c,d]
def zct(m:Nat)(i:Int):(oths m i).length<=m:=by
 have:=List.length_filter_le (λo=>!decide (o=i)) (hnds m);have l:(hnds m).length=m:=by simp[hnds]
 unfold oths;lia
def zrP{m:Nat}(e:S.get a=Φ (hD i m r wb hr en))(g:S.get wb=Φ (.dic (kvD K)))(f:K.length<64)(m7:m<=7) :
  appW (callF prog (n+2)) 28 [.ref a,t] S=.ok (.ref (S.push (.lst ((zaq K).map .int))).len) ((S.push (.lst ((zaq K).map .int))).push (.lst ((oths m i).map (rowD i (zaq K))))):=by
 apply zfi rfl rfl;exists zaI e;exists rfl;change rfl;specialize zjZ e g f;exists zap _ _;change by rw[length_map,zcm];lia
 have b:=zad (o:=.lst ((zaq K).map D.int)) e;exists zkG b;change by lia
 apply zbj;refine W.of (zce (λd=>match d with|.int o=>!decide (o=i)|_=>Δ) (λd=>match d with|.int o=>rowD i (zaq K) o|_=>d) _ Ψ (λz c=>?_) (λz c _=>?_)) ?_;let⟨o,_,rfl⟩:=mem_map.mp c;refine W.eq (wT_W _ ?_);exists zdi b;exact⟨rfl,rfl⟩;let⟨o,_,rfl⟩:=mem_map.mp c;refine W.eq (wE_W _ ?_);exists zdi b;change by first|decide|lia|(simp;done)|(lia)
 change by first|decide|lia|(simp;done)|(lia)
 exact⟨rfl,rfl⟩;rw[zhf,zkE m i (rowD i (zaq K)) _ _ (λo=>rfl) (λo=>rfl)];have:=zct m i;change by simp;lia
 change by simp;lia
 exact⟨rfl,rfl⟩
end
def zf2(ns:List Int)(x:Int):x∈dedup ns↔x∈ns:=by
 unfold dedup;suffices ∀(l a:List Int),x∈l.foldl (λa x=>if a.contains x then a else a++[x]) a↔x∈a\/x∈l from by simpa using this ns []
 intro l;induction l with
 |nil=>intro a;simp| cons y l b=>
  intro a;rw[List.foldl_cons,b];by_cases c:a.contains y=Γ;rw[if_pos c];have c:y∈a:=by simpa using c
  constructor;rintro(h|h);exact .inl h;exact .inr (Μ _ h);rintro(h|h);exact .inl h;rcases mem_cons.mp h with e|e;subst e;exact .inl c;exact .inr e;rw[if_neg c];simp[or_assoc]
def zhS:∀p q:List Int,PySem.PyData.eqvAll (p.map PySem.PyData.int) (q.map PySem.PyData.int)=decide (p=q)
 | [],[]=>by simp[PySem.PyData.eqvAll]| [],_::_=>by simp[PySem.PyData.eqvAll]|_::_,[]=>by simp[PySem.PyData.eqvAll]| a::p,b::q=>by rw[Υ,Υ,PySem.PyData.eqvAll,L2.eqv_int,zhS p q];by_cases h:a=b<;>by_cases k:p=q<;>simp[h]
def zgD(S:R.St)(n:Nat):∀p:List Int,(p.map D.int).mapM (pd S n)=Φ (p.map PySem.PyData.int)
 | []=>rfl| a::p=>by rw[Υ,Ϝ,zgD S n p];cases n<;>rfl
def zrw(S:R.St)(n:Nat)(p:List Int):pd S (n+1) (pD p)=Φ (.tuple (p.map .int)):=by unfold pd;rw[zgD];rfl
def zsp(S:R.St)(p q:List Int):cmpO S .Eq (pD p) (pD q)=Φ (decide (p=q)):=by show eqD S (pD p) (pD q)=_;unfold eqD;rw[zrw,zrw,Ϛ,Option.map_some,PySem.PyData.eqv,zhS]
@[reducible]def Ltr:=Int×Option (List Int)
abbrev tD:Option (List Int)->D|none=>.non|some p=>pD p
abbrev ltD(x:Ltr):D:=.tup [.tup [.int x.1],tD x.2]
abbrev lrn1(K:List Int)(x:Ltr):List Int:=match x.2 with|none=>K|some p=>ads K p
abbrev lrn(K:List Int)(a:List Ltr):List Int:=a.foldl lrn1 K
abbrev wrs(a:List Ltr):List Int:=a.filterMap λx=>x.2.map λ_=>x.1
abbrev bfZ(m:Nat)(a:List (List Int)):List Int:=a.getLast?.getD (hnds m)
def zj1(h:S.get l=Φ (.lst (ks.map .int))):lstI S (.ref l)=Φ ks:=by unfold lstI;dsimp only;rw[h];exact zdK ks
abbrev LOk(ws:List Int)(a:List Ltr):Prop:=∀x∈a,∀p,x.2=Φ p->p.length<=10/\∀w∈p,w∈ws
def Sb.lrn:∀{Ls:List Ltr}{K:List Int},Sb ws K->LOk ws Ls->Sb ws (lrn K Ls)
 | [],_,h,_=>h| x::Ls,K,h,hp=>by refine Sb.lrn (K:=lrn1 K x) ?_ λy hy=>hp y (Μ _ hy);unfold lrn1;cases e:x.2 with|none=>exact h|some p=>exact h.ads (hp x Ν p e).2
def zl7:lrn K (a++[x])=lrn1 (lrn K a) x:=by unfold lrn;rw[List.foldl_append];rfl
abbrev wr1(x:Ltr):List Int:=match x.2 with|none=>[]|some _=>[x.1]
def zlb:wrs (a++[x])=wrs a++wr1 x:=by unfold wrs wr1;cases e:x.2<;>simp[e]
def ziM(a:List Ltr):(wrs a).length<=a.length:=List.length_filterMap_le _ _
abbrev hdZ(l:List Int):Int:=l.headD 0
def zm5:∀{l:List Int},l.Pairwise (·<=·)->l≠[]->minZ l=Φ (hdZ l)
 | [],_,h=>absurd rfl h| x::l,b,_=>by unfold minZ;cases l with|nil=>rfl| cons y c=>have a:=pairwise_cons.mp b;rw[zm5 a.2 (by simp)];exact congrArg Φ (if_pos (a.1 y Ν))
abbrev nowZ(i:Int)(a:List Ltr):List Int:=zaq (dedup (i::wrs a))
abbrev enZ(en:Option (Int×Int))(t r:Int)(a b K:List Int):Option (Int×Int):=match en with|some e=>Φ e|none=>if a=b\/r<=t then Φ (t,hdZ (zaq K)) else Ψ
def Mv.lock(h:Mv A {S with lk:=l} T):Mv A S {T with lk:=S.lk}:=⟨h.frz,rfl,h.len,λm o a e=>h.old m o a e⟩
section
variable{S:R.St}{a wb hr n q:Nat}{i r t:Int}{m:Nat}{en:Option (Int×Int)}{K ws:List Int}{Hs:List (List Int)}{Ls:List Ltr}
def zml(e:S.get a=Φ (hD i m r wb hr en))(g:S.get hr=Φ (.lst (Hs.map pD)))(m7:m<=7) :
  evE cf (.ite (.tst (.fld J0 "hearings")) (.ix (.fld J0 "hearings") (.neg U1)) (.mkT (.rng1 (.fld J0 "many")))) [Φ (.ref a),b,c,d,f,h,j] S=.ok (pD (bfZ m Hs)) S:=by
 refine W.eq (wE_W _ ?_);rcases List.eq_nil_or_concat Hs with rfl|⟨H0,x,rfl⟩;left;exists zbt e;exists g;exists zkG e;change by lia
 change by simp;lia
 refine⟨?_,rfl⟩;show D.tup _=pD (hnds m);rw[zhf];rw[List.concat_eq_append]at g⊢;rw[map_append]at g;exists zbt e;exists g;apply zgl (by simp);exists zbt e;exists g;exists zh5 _ _;exact⟨by simp[bfZ],rfl⟩
abbrev ztV:CS:=(.ifS (.cmp .IsNot J6 (.con D.non)) (.expr (.mt .append J4 #[.ix J5 (.neg U1)]) (.expr (.meth "learn" [(0,27)] J0 #[J6]) .nil)) .nil .nil)
abbrev HI(S:R.St)(a wb q L:Nat)(i t:Int)(b K:List Int)(Ls:List Ltr)(j:Nat)(δ:Ev)(T:R.St):Prop:=∃c d,δ=[Φ (.ref a),Φ (.int t),Φ (.ref q),Φ (pD b),Φ (.ref L),c,d]/\Mv [wb,L] S T/\T.get wb=Φ (.dic (kvD (lrn K (Ls.take j))))/\T.get L=Φ (.lst ((i::wrs (Ls.take j)).map .int))
def zsd{m:Int}(e:S.get a=Φ (hD i m r wb hr en))(o:Fr S wb)(s:Fr S L)(v:a≠wb)(b:a≠L)(c:wb≠L)(hs:Sb ws K)(hw:ws.length<=1000)(ok:LOk ws Ls)(hl:Ls.length<=50)(w:Ls[j]?=Φ x)(h:HI S a wb q L i t C K Ls j δ T) :
  ∃δ',asgG [5,6] (ltD x) δ=Φ δ'/\W (exS (callF prog (n+1)) ztV δ' T) λf J=>match f with|.nx A=>HI S a wb q L i t C K Ls (j+1) A J|.rt _=>False|.ex _=>False:=by
 let⟨v5,v6,rfl,g,gw,k⟩:=h;refine⟨[Φ (.ref a),Φ (.int t),Φ (.ref q),Φ (pD C),Φ (.ref L),Φ (.tup [.int x.1]),Φ (tD x.2)],rfl,wS_W _ ?_⟩;have M:Sb ws (lrn K (Ls.take j)):=hs.lrn λy N=>ok y (List.mem_of_mem_take N);have B:=mem_of_getElem? w;have E:lrn K (Ls.take (j+1))=lrn1 (lrn K (Ls.take j)) x:=by rw[zdm w,zl7]
 have G:wrs (Ls.take (j+1))=wrs (Ls.take j)++wr1 x:=by rw[zdm w,zlb]
 let⟨O,Q⟩:=x;cases Q with
 |none=>refine⟨_,_,rfl,g,?_,?_⟩;rw[E];exact gw;rw[G];simpa[wr1]using k| some p=>
  exists k;exists rfl;exists k;have l1:=ziM (Ls.take j);have l2:=List.length_take_le' j Ls;change by simp;lia
  let⟨U,Y,l,g1⟩:=zbF (s.mv g) k;exists Y;have H:=l.old _ _ (by simpa using b) (g.old _ _ (by simp[v,b]) e);have gU:=l.old _ _ (by simpa using c) gw;exists zaI H;exists rfl;change rfl;refine za2 ((zoX H gU ((o.mv g).mv l) M hw (ok _ B p rfl).2).mono λd V z=>?_);let⟨I,g2⟩:=z;refine⟨_,_,rfl,(g.trans (l.up (by simp))).trans (I.up (by simp)),?_,?_⟩;rw[E];exact g2;rw[G,I.old _ _ (by simpa using c.symm) g1];simp[wr1]
abbrev ztU:CS:=(.expr (.mt .append (.fld J0 "hearings") #[.mkT (.val (.sset J4))]) (.ifS (.and (.cmp .Is (.fld J0 "end") (.con D.non)) (.or (.cmp .Eq (.ix (.fld J0 "hearings") (.neg U1)) J3) (.cmp .GtE J1 (.fld J0 "rounds")))) (.setF J0 "end" (.tup #[J1,.min1 (.meth "known" [(0,26),(2,36)] J0 .nil)]) .nil) .nil .nil))
def znU{m:Int}(e:S.get a=Φ (hD i m r wb hr en))(hf:Fr S a):∃T,zb6 S (.ref a) "end" (eD en')=Φ T/\Mv [a] S T/\T.get a=Φ (hD i m r wb hr en'):=zbd e hf (by simp) rfl
def zse{m:Int}(e:S.get a=Φ (hD i m r wb hr en))(j:Fr S a)(k:Fr S hr)(gw:S.get wb=Φ (.dic (kvD K)))(I:S.get L=Φ (.lst (w.map .int)))(gh:S.get hr=Φ (.lst (Hs.map pD)))(J:w.length<64)(M:K.length<64)(l:K≠[])(hH:Hs.length<=50) :
  W (exS (callF prog (n+1)) ztU [Φ (.ref a),Φ (.int t),Φ N,Φ (pD d),Φ (.ref L),O,Q] S) λf T=>match f with|.nx _=>Mv [a,hr] S T/\T.get a=Φ (hD i m r wb hr (enZ en t r (zaq (dedup w)) d K))/\T.get hr=Φ (.lst ((Hs++[zaq (dedup w)]).map pD))|.rt _=>False|.ex _=>False:=by
 have B:a≠hr:=λz=>by rw[z,gh]at e;cases e
 have Y:wb≠hr:=λz=>by rw[z,gh]at gw;cases gw
 apply wS_W _;exists zbt e;exists gh;exists zj1 I;change J;have hd:(zaq (dedup w)).length<=w.length:=by rw[zcm];exact zeV (zci w) λx hx=>(zf2 w x).mp hx
 change by rw[length_map];lia
 exists zap _ _;change by rw[length_map];lia
 have e1:=zad (o:=.lst ((zaq (dedup w)).map D.int)) e;have g:=zad (o:=.lst ((zaq (dedup w)).map D.int)) gh;have p:=zad (o:=.lst ((zaq (dedup w)).map D.int)) gw;have C:=Mv.push [a,hr] S (.lst ((zaq (dedup w)).map D.int));exists g;change by simp;lia
 let⟨U,h1,s,v⟩:=zbF (k.mv C) g;exists h1;have b:=s.old _ _ (by simpa using B) e1;have y:=s.old _ _ (by simpa using Y) p;have E:=C.trans (s.up (by simp));exists zsl b;have fin:enZ en t r (zaq (dedup w)) d K=en->Mv [a,hr] S U/\U.get a=Φ (hD i m r wb hr (enZ en t r (zaq (dedup w)) d K))/\U.get hr=Φ (.lst ((Hs++[zaq (dedup w)]).map pD)):=λz=>⟨E,by rw[z];exact b,by rw[map_append];exact v⟩;have h:(zaq (dedup w)=d\/r<=t)->en=Ψ->wS (callF prog (n+1)) (.setF J0 "end" (.tup #[J1,.min1 (.meth "known" [(0,26),(2,36)] J0 .nil)]) .nil) [Φ (.ref a),Φ (.int t),Φ N,Φ (pD d),Φ (.ref L),O,Q] U λf T=>match f with|.nx _=>Mv [a,hr] S T/\T.get a=Φ (hD i m r wb hr (enZ en t r (zaq (dedup w)) d K))/\T.get hr=Φ (.lst ((Hs++[zaq (dedup w)]).map pD))|.rt _=>False|.ex _=>False:=by
  intro hc hn;exists zaI b;exists rfl;change rfl;specialize zjZ b y M;exists zj1 (zap _ _);exists zm5 (zaR K) (λz=>l (by have:=(zas K).length_eq;rw[z]at this;exact length_eq_zero_iff.mp this.symm));change by first|decide|lia|(simp;done)|(lia)
  have e3:=zad (o:=.lst ((zaq K).map D.int)) b;have g3:=zad (o:=.lst ((zaq K).map D.int)) v;have G:=E.trans (Mv.push [a,hr] U (.lst ((zaq K).map D.int)));let⟨V,h4,H,g4⟩:=znU (en':=Φ (t,hdZ (zaq K))) e3 (j.mv G);exists h4;refine⟨G.trans (H.up (by simp)),?_,?_⟩;rw[g4];unfold enZ;rw[hn];rw[if_pos hc];rw[map_append];exact H.old _ _ (by simpa using B.symm) g3
 cases en with| some z=>exact fin rfl| none=>exists zbt b;exists v;exists zh5 _ _;exists zsp _ _ _;refine zc4 (λc=>?_) (λc=>?_);exact h (.inl c) rfl;left;exists zhP b;refine zc4 (λA=>?_) (λA=>?_);exact h (.inr A) rfl;exact fin (by unfold enZ;rw[if_neg (by rintro(z|z);exact c z;exact A z)])
end
def zb0(h:evL cf l δ S=.ok (xs,ls) S1)
  (w:W (zaM g (exS cf b) xs δ {S1 with lk:=ls++S1.lk}) λf T=>match f with|.nx δ'=>W (exS cf r δ' {T with lk:=S1.lk}) Q|.rt d=>Q (.rt d) {T with lk:=S1.lk}|.ex d=>Q (.ex d) {T with lk:=S1.lk}):W (exS cf (.forS g l b r) δ S) Q:=by
 show W (Out.bind _ _) _;rw[h,zaj];unfold za4;rw[zab,zab];refine w.mono λf T a=>?_;cases f with|nx δ'=>exact a|rt d=>exact a|ex d=>exact a
def zl5:w∈lrn1 K x↔w∈K\/∃p,x.2=Φ p/\w∈p:=by unfold lrn1;cases e:x.2 with|none=>simp|some p=>simp[zjX]
def mem_lrn:∀{a:List Ltr}{K:List Int},w∈lrn K a↔w∈K\/∃x∈a,∃p,x.2=Φ p/\w∈p
 | [],K=>by simp[lrn]| x::a,K=>by show w∈lrn (lrn1 K x) a↔_;rw[mem_lrn,zl5,or_assoc];simp
def zm7(h:K≠[]):lrn K a≠[]:=by let⟨x,r,rfl⟩:=List.exists_cons_of_ne_nil h;exact List.ne_nil_of_mem (mem_lrn.mpr (.inl (Ν)))
section
variable{S:R.St}{a wb hr n q:Nat}{i r t:Int}{m:Nat}{en:Option (Int×Int)}{K ws:List Int}{Hs:List (List Int)}{Ls:List Ltr}
def zm6(e:S.get a=Φ (hD i m r wb hr en))(k:Fr S a)(g:Fr S wb)(l:Fr S hr)(o:S.lk.contains S.len=Δ)(gw:S.get wb=Φ (.dic (kvD K)))(gh:S.get hr=Φ (.lst (Hs.map pD)))(p:S.get q=Φ (.lst (Ls.map ltD)))(m7:m<=7)(hs:Sb ws K)(hw:ws.length<64)(ok:LOk ws Ls)(L:Ls.length<=50)(s:K≠[])(M:Hs.length<=50) :
  W (appW (callF prog (n+2)) 25 [.ref a,.int t,.ref q] S) λd T=>d=.non/\Mv [a,wb,hr] S T/\T.get a=Φ (hD i m r wb hr (enZ en t r (nowZ i Ls) (bfZ m Hs) (lrn K Ls)))/\T.get wb=Φ (.dic (kvD (lrn K Ls)))/\T.get hr=Φ (.lst ((Hs++[nowZ i Ls]).map pD)):=by
 have u:a≠wb:=λz=>by rw[z,gw]at e;cases e
 have N:wb≠q:=λz=>by rw[z,p]at gw;cases gw
 have H:hr≠wb:=λz=>by rw[z,gw]at gh;cases gh
 have O:wb≠S.len:=λz=>by have:=zak gw;lia
 have v:a≠S.len:=λz=>by have:=zak e;lia
 have w:q≠S.len:=λz=>by have:=zak p;lia
 have y:S.frz.length<=S.len:=by unfold St.len;lia
 apply zbG rfl rfl;apply zb3 (zml e gh m7);refine zb3 (d:=.ref S.len) (S':=S.push (.lst [.int i])) (W.eq (wE_W _ ?_)) ?_;left;exists zdi e;change by first|decide|lia|(simp;done)|(lia)
 exact⟨rfl,rfl⟩;refine zb0 (xs:=Ls.map ltD) (ls:=[q]) (S1:=S.push (.lst [.int i])) (W.eq (wL_W _ ?_)) ?_;left;exists zad p;exact⟨rfl,rfl⟩;refine W.mono (zcB (λj A T=>HI {S.push (.lst [.int i]) with lk:=[q]++(S.push (.lst [.int i])).lk} a wb q S.len i t (bfZ m Hs) K Ls j A T) (λ_ _=>False) _ 0 _ _ ⟨Ψ,Ψ,rfl,Mv.refl _ _,by exact zad gw,by exact zap _ _⟩ ?_) ?_;rintro j z A T b c;rw[zero_add]at c⊢;rw[getElem?_map]at b;cases B:Ls[j]? with
 |none=>rw[B]at b;exact nS b
 |some x=>rw[B]at b;cases b;refine zsd (zad e) ?_ ?_ u v O hs (by lia) ok L B c;exact⟨g.f,by show((q::S.lk).contains wb)=Δ;rw[Ϣ,g.k];simpa using N⟩;exact⟨y,by show((q::S.lk).contains S.len)=Δ;rw[Ϣ,o];simpa using w.symm⟩
 rintro f T c;cases f with|rt d=>exact c.elim|ex d=>exact c.elim| nx A=>let⟨v5,v6,rfl,C,E,I⟩:=c;rw[zero_add,length_map,List.take_length]at E I;have C:=C.lock;have h:Mv [wb] S {T with lk:=(S.push (.lst [.int i])).lk}:=zjU (C.up (by intro z b;simp at b⊢;exact b.symm));have Q:=hs.lrn ok;have sl:=Q.len;have wl:=ziM Ls;refine W.mono (zse (h.old _ _ (by simpa using u) e) (k.mv h) (l.mv h) E I (h.old _ _ (by simpa using H) gh) (by rw[ϊ];lia) (by lia) (zm7 s) M) λf U G=>?_;cases f with|rt d=>exact G.elim|ex d=>exact G.elim| nx Y=>let⟨J,u2,u3⟩:=G;exact⟨rfl,(h.up (by simp)).trans (J.up (by intro z b;simp at b⊢;rcases b with z|z<;>simp[z])),u2,J.old _ _ (by simp[u.symm,H.symm]) E,u3⟩
def zoY{m:Int}(e:S.get a=Φ (.ins 0 []))(hf:Fr S a):W (appW (callF prog (n+1)) 37 [.ref a,.int i,.int m,.int r] S) λd T=>Mv [a] S T/\T.get a=Φ (.ins 0 [("number",.int i),("many",.int m),("rounds",.int r)]):=by refine zbG rfl rfl (wS_W _ ?_);let⟨s,g,b,h⟩:=zbd (gs:=[("number",.int i)]) e hf (by simp) rfl;let⟨u,j,c,k⟩:=zbd (f:="many") (gs:=[("number",.int i),("many",.int m)]) h (hf.mv b) (by simp) rfl;let⟨v,l,o,p⟩:=zbd k ((hf.mv b).mv c) (by simp) rfl;exists g;exists j;exists l;exact⟨(b.trans c).trans o,p⟩
def zrQ{m:Int}(e:S.get a=Φ (.ins 0 []))(hf:Fr S a):W (appW (callF prog (n+2)) 23 [.ref a,.int i,.int m,.int r,.int w] S) λd T=>d=.non/\Mv [a] S T/\∃wb hr,S.len<=wb/\S.len<=hr/\T.get a=Φ (hD i m r wb hr Ψ)/\T.get wb=Φ (.dic (kvD [w]))/\T.get hr=Φ (.lst []):=by
 refine zbG rfl rfl (wS_W _ ?_);refine za2 ((zoY e hf).mono λd T z=>?_);let⟨x,E⟩:=z;have y:=x.trans (Mv.push [a] T (.dic [(w,.bl Γ)]));have j:=zad (o:=.dic [(w,.bl Γ)]) E;have gw:=zap T (.dic [(w,.bl Γ)]);have G:=x.len;have k:=G;generalize l:T.push (.dic [(w,.bl Γ)])=Y at *;let⟨g,H,A,I⟩:=zbd (f:="wordbook") (gs:=[("number",.int i),("many",.int m),("rounds",.int r),("wordbook",.ref T.len)]) j (hf.mv y) (by simp) rfl;exists rfl;have p:zb6 (T.push (.dic [(w,.bl Γ)])) (.ref a) "wordbook" (.ref T.len)=Φ g:=by rw[l];exact H
 exists p;change by first|decide|lia|(done)|(lia)
 have B:=y.trans A;have J:=B.len;have s:=A.old _ _ (by simp;lia) gw;have u:=zad (o:=.lst []) I;have h:=zad (o:=.lst []) s;have v:=zap g (.lst []);have b:=B.trans (Mv.push [a] g (.lst []));let⟨T4,L,C,M⟩:=zbd (f:="hearings") (gs:=[("number",.int i),("many",.int m),("rounds",.int r),("wordbook",.ref T.len),("hearings",.ref g.len)]) u (hf.mv b) (by simp) rfl;exists L;let⟨T5,N,O,Q⟩:=zbd M ((hf.mv b).mv C) (by simp) rfl;exists N;have c:=C.trans O;exact⟨rfl,b.trans c,T.len,g.len,k,J,Q,c.old _ _ (by simp;lia) h,c.old _ _ (by simp;lia) v⟩
end
section
variable{S:R.St}{a c n:Nat}{i m r last:Int}{rs:List Int}
abbrev cD(i m r:Int)(a:Nat)(last:Int)(rs:List Int):MO:=.ins 1 [("number",.int i),("many",.int m),("rounds",.int r),("inner",.ref a),("last",.int last),("reached",pD rs)]
abbrev rch(last:Int)(rs:List Int)(t o:Int):Bool:=decide (t<last)||(decide (t=last)&&decide (o∈rs))
def zr9(S:R.St)(x:Int)(ks:List Int):cmpO S .In (.int x) (.tup (ks.map .int))=Φ (decide (x∈ks)):=by show((Φ (ks.map D.int)).bind λb=>inD S (.int x) b)=_;rw[Ϛ,ze4]
def zk0(e:S.get c=Φ (cD i m r a last rs)):((zbo S (.ref c)).bind λp=>p.2.lookup ("last":PySem.Str))=Φ (.int last):=zbM e rfl
def zk1(e:S.get c=Φ (cD i m r a last rs)):((zbo S (.ref c)).bind λp=>p.2.lookup ("inner":PySem.Str))=Φ (.ref a):=zbM e rfl
def zkZ(e:S.get c=Φ (cD i m r a last rs)):((zbo S (.ref c)).bind λp=>p.2.lookup ("reached":PySem.Str))=Φ (pD rs):=zbM e rfl
def zjY(e:S.get c=Φ (cD i m r a last rs)):appW (callF prog (n+1)) 31 [.ref c,.int t,.int o] S=.ok (.bl (rch last rs t o)) S:=by apply zfi rfl rfl;exists zk0 e;refine zc4 (λb=>?_) (λb=>?_);left;exact⟨by simp[rch,b],rfl⟩;left;exists zk0 e;refine zc4 (λd=>?_) (λd=>?_);left;exists zkZ e;exists zr9 _ _ _;exact⟨by simp[rch,d],rfl⟩;left;exact⟨by simp[rch,b,d],rfl⟩
end
def zi0{rest:Ev}(f:D->D):∀(xs:List D)(a b d:Option D),
  (∀x∈xs,∃p q w,x=.tup [p,q,w]/\c (Φ p::Φ q::Φ w::rest) S=.ok Γ S/\e (Φ p::Φ q::Φ w::rest) S=.ok (f x) S)->za3 [0,1,2] c e xs (a::b::d::rest) S=.ok (xs.map f) S
 | [],_,_,_,_=>rfl| x::xs,a,b,d,h=>by let⟨p,q,w,rfl,g,i⟩:=h x (by simp);have j:=zi0 f xs (Φ p) (Φ q) (Φ w) λy k=>h y (by simp[k]);have l:asgG [0,1,2] (.tup [p,q,w]) (a::b::d::rest)=Φ (Φ p::Φ q::Φ w::rest):=rfl;simp[za3,l,g,i,j]
abbrev rowC(i:Int)(k:List Int)(a:Int)(b:List Int)(t o:Int):D:=.tup [.tup [.int i],.int o,if rch a b t o=Γ then pD k else .non]
section
variable{S:R.St}{a c wb hr n:Nat}{i r last t:Int}{rs K:List Int}{en:Option (Int×Int)}{m:Nat}
def zrR(h:S.get c=Φ (cD i m r a last rs))(e:S.get a=Φ (hD i m r wb hr en))(g:S.get wb=Φ (.dic (kvD K)))(j:K.length<64)(m7:m<=7) :
  W (appW (callF prog (n+3)) 32 [.ref c,.int t] S) λd T=>∃l,d=.ref l/\Mv [] S T/\S.len<=l/\T.get l=Φ (.lst ((oths m i).map (rowC i (zaq K) last rs t))):=by
 refine zbG rfl rfl (wS_W _ ?_);exists zk1 h;exists zaI e;exists rfl;change rfl;specialize zrP e g j m7;exists zap _ _;apply zbj;have s:=zct m i;generalize k:((S.push (.lst ((zaq K).map D.int))).push (.lst ((oths m i).map (rowD i (zaq K)))))=U;have f:Mv [] S U:=by rw[<-k];exact(Mv.push [] _ _).trans (Mv.push [] _ _)
 have b:=f.old _ _ (by simp) h;refine W.of (zi0 (λd=>match d with|.tup [p,.int o,_]=>.tup [p,.int o,if rch last rs t o=Γ then pD (zaq K) else .non]|_=>d) _ Ψ Ψ Ψ (λx q=>?_)) ?_;let⟨o,_,rfl⟩:=mem_map.mp q;refine⟨_,_,_,rfl,rfl,W.eq (wE_W _ ?_)⟩;exists zaI b;exists rfl;change rfl;specialize zjY b;cases hr:rch last rs t o with
 |true=>
  change by first|decide|lia|(simp;done)|(lia)
  exact⟨by show _=D.tup [.tup [.int i],.int o,if rch last rs t o=Γ then pD (zaq K) else .non];rw[hr];rfl,rfl⟩
 |false=>
  change by first|decide|lia|(simp;done)|(lia)
  exact⟨by show _=D.tup [.tup [.int i],.int o,if rch last rs t o=Γ then pD (zaq K) else .non];rw[hr];rfl,rfl⟩
 rw[ϒ];change by simp;lia
 change by simp;lia
 exact⟨_,rfl,f.trans (Mv.push [] _ _),f.len,zap _ _⟩
end
section
variable{S:R.St}{a c wb hr q n m:Nat}{i r last t:Int}{rs K ws:List Int}{en:Option (Int×Int)}{Hs:List (List Int)}{Ls:List Ltr}
def zo2(l:S.get c=Φ (cD i m r a last rs))(e:S.get a=Φ (hD i m r wb hr en))(b:Fr S a)(f:Fr S wb)(g:Fr S hr)(h:S.lk.contains S.len=Δ)(gw:S.get wb=Φ (.dic (kvD K)))(gh:S.get hr=Φ (.lst (Hs.map pD)))(p:S.get q=Φ (.lst (Ls.map ltD)))(m7:m<=7)(hs:Sb ws K)(hw:ws.length<64)(ok:LOk ws Ls)(s:Ls.length<=50)(j:K≠[])(u:Hs.length<=50) :
  W (appW (callF prog (n+3)) 30 [.ref c,.int t,.ref q] S) λd T=>d=.non/\Mv [a,wb,hr] S T/\(t<last->T.get a=Φ (hD i m r wb hr (enZ en t r (nowZ i Ls) (bfZ m Hs) (lrn K Ls)))/\T.get wb=Φ (.dic (kvD (lrn K Ls)))/\T.get hr=Φ (.lst ((Hs++[nowZ i Ls]).map pD)))/\(¬t<last->T=S):=by
 refine zbG rfl rfl (wS_W _ ?_);exists zk0 l;refine zc4 (λk=>?_) (λk=>?_);left;exists zk1 l;exists zaI e;exists rfl;change rfl;exact za2 ((zm6 e b f g h gw gh p m7 hs hw ok s j u).mono λd T o=>⟨rfl,o.2.1,λ_=>o.2.2,λz=>absurd k z⟩);left;exact⟨rfl,Mv.refl _ _,λz=>absurd z k,λ_=>rfl⟩
end
structure Pt where
 a:Nat
 wb:Nat
 hr:Nat
 cr:Option (Nat×Int×List Int)
structure Hn where
 K:List Int
 H:List (List Int)
 en:Option (Int×Int)
abbrev Pt.who(p:Pt):Nat:=match p.cr with|none=>p.a|some x=>x.1
abbrev Pt.rch(p:Pt)(t o:Int):Bool:=match p.cr with|none=>Γ|some x=>Kz.rch x.2.1 x.2.2 t o
abbrev Pt.on(p:Pt)(t:Int):Prop:=match p.cr with|none=>True|some x=>t<x.2.1
structure Tw(S:R.St)(m:Nat)(r:Int)(ps:List Pt)(hs:List Hn):Prop where
 lp:ps.length=m
 lh:hs.length=m
 hand:∀(j:Nat) p h,ps[j]?=Φ p->hs[j]?=Φ h->S.get p.a=Φ (hD j m r p.wb p.hr h.en)/\S.get p.wb=Φ (.dic (kvD h.K))/\S.get p.hr=Φ (.lst (h.H.map pD))
 cra:∀(j:Nat) p c last rs,ps[j]?=Φ p->p.cr=Φ (c,last,rs)->S.get c=Φ (cD j m r p.a last rs)
abbrev zlc(k:List Int)(b:Bool):D:=if b=Γ then pD k else .non
abbrev letD(t j:Int)(k:List Int)(o:Int)(b:Bool):D:=.tup [.int t,.tup [.int j],.int o,zlc k b]
abbrev zfp(m:Nat)(t:Int)(j:Nat)(p:Pt)(h:Hn):List D:=(oths m j).map λo=>letD t j (zaq h.K) o (p.rch t o)
abbrev rowP(j:Int)(k:List Int)(o:Int)(b:Bool):D:=.tup [.tup [.int j],.int o,zlc k b]
noncomputable abbrev Es(t:Int)(x:D)(l:Nat)(c d e f g:Option D):Ev:=[Φ (.int t),Φ x,Φ .non,Φ (.ref l),c,d,e,f,g]
abbrev sIn:CS:=.expr (.mt .append J3 #[.tup #[J0,J6,.ite (.cmp .Is J2 (.con D.non)) J7 (.ix (.ix J2 J4) J7),J8]]) .nil
def znd{B:Int->Bool}:∀(os:List Int)(a:List D)(T:R.St)(e f g:Option D),T.get l=Φ (.lst a)->Fr T l->a.length+os.length<=1000->
  W (zaM [6,7,8] (exS cf sIn) (os.map λo=>rowP j k o (B o)) (Es t x l c d e f g) T) λi U=>(∃e f g,i=.nx (Es t x l c d e f g))/\U.get l=Φ (.lst (a++os.map λo=>letD t j k o (B o)))/\Mv [l] T U
 | [],a,T,e,f,g,h,b,m=>by show W (Out.ok (Fl.nx _) T) _;exact⟨⟨e,f,g,rfl⟩,by simpa using h,Mv.refl _ _⟩| o::os,a,T,e,f,g,h,b,m=>by
  simp at m;show W (Out.bind (exS cf sIn (Es t x l c d (Φ (.tup [.int j])) (Φ (.int o)) (Φ (zlc k (B o)))) T) _) _;rw[zab];apply wS_W _;left;exists h;left;change show 4<=16777216 by decide
  left;exists h;left;change by simp;lia
  left;let⟨U,p,n,q⟩:=zbF b h;exists p;refine(znd os (a++[letD t j k o (B o)]) U _ _ _ q (b.mv n) (by simp;lia)).mono λi V r=>?_;let⟨s,u,v⟩:=r;exact⟨s,by rw[u,append_assoc];rfl,n.trans v⟩
structure P1(S:R.St)(m:Nat)(r:Int)(j:Nat)(p:Pt)(h:Hn):Prop where
 a:S.get p.a=Φ (hD j m r p.wb p.hr h.en)
 w:S.get p.wb=Φ (.dic (kvD h.K))
 g:S.get p.hr=Φ (.lst (h.H.map pD))
 c:∀c last rs,p.cr=Φ (c,last,rs)->S.get c=Φ (cD j m r p.a last rs)
 k:h.K.length<64
def P1.mv(x:P1 S m r j p h)(v:Mv A S T)(na:p.a∉A)(d:p.wb∉A)(f:p.hr∉A)(g:∀c a b,p.cr=Φ (c,a,b)->c∉A):P1 T m r j p h:=⟨v.old _ _ na x.a,v.old _ _ d x.w,v.old _ _ f x.g,λc a b e=>v.old _ _ (g c a b e) (x.c c a b e),x.k⟩
abbrev sayL:CL:=.val (.meth "say" [(0,28),(1,32)] J5 #[J0])
def zod(a:P1 S m r j p h)(m7:m<=7) :
  W (evL (callF prog (n+3)) sayL (Es t x l c (Φ (.ref p.who)) e f g) S) λq T=>∃i,q=((oths m j).map (λo=>rowP j (zaq h.K) o (p.rch t o)),[i])/\S.len<=i/\Mv [] S T:=by
 apply wL_W _;let⟨B,C,E,s⟩:=p;cases s with| none=>exists zaI a.a;exists rfl;change rfl;specialize zrP a.a a.w a.k m7;exists zap _ _;refine⟨_,rfl,?_,(Mv.push [] _ _).trans (Mv.push [] _ _)⟩;rw[plen];lia| some y=>let⟨c,b,u⟩:=y;have k:=a.c c b u rfl;exists zaI k;exists rfl;change rfl;refine za2 ((zrR k a.a a.w a.k m7).mono λd T w=>?_);let⟨i,rfl,v,z,A⟩:=w;exists A;exact⟨_,rfl,z,v⟩
abbrev sOut:CS:=.forS [6,7,8] sayL sIn .nil
abbrev enW:Nat->List Pt->List D
 |_,[]=>[]|k,p::a=>zd7 (.int (k:Nat)) (.ref p.who)::enW (k+1) a
abbrev zaS(m:Nat)(t:Int):Nat->List Pt->List Hn->List D
 |k,p::a,h::b=>zfp m t k p h++zaS m t (k+1) a b|_,_,_=>[]
def zlt(k:P1 S m r j p h)(m7:m<=7)(d:S.get l=Φ (.lst a))(hf:Fr S l)(G:a.length<=500) :
  W (exS (callF prog (n+3)) sOut (Es t x l (Φ (.int j)) (Φ (.ref p.who)) e f g) S) λi U=>(∃e f g,i=.nx (Es t x l (Φ (.int j)) (Φ (.ref p.who)) e f g))/\U.get l=Φ (.lst (a++zfp m t j p h))/\Mv [l] S U:=by
 show W (Out.bind _ _) _;rw[zab];refine(zod k m7).mono λq T o=>?_;let⟨b,rfl,H,v⟩:=o;have I:=zct m j;have s:l≠b:=by have:=zak d;lia
 rw[zab];unfold za4;rw[zab];have u:({T with lk:=[b]++T.lk}:R.St).get l=Φ (.lst a):=v.old _ _ (by simp) d;have w:Fr ({T with lk:=[b]++T.lk}:R.St) l:=⟨by rw[v.frz];exact hf.f,by
  show(b::T.lk).contains l=Δ;rw[Ϣ,v.lk,hf.k];simpa using s⟩
 refine(znd (oths m j) a _ e f g u w (by lia)).mono λi U y=>?_;let⟨⟨z,A,B,rfl⟩,C,E⟩:=y;refine⟨⟨z,A,B,rfl⟩,C,?_⟩;have c:=E.lock;exact(v.up (by simp)).trans c
def zjh(m:Nat)(t:Int)(j:Nat)(p:Pt)(h:Hn):(zfp m t j p h).length<=m:=by unfold zfp;rw[length_map];exact zct m j
def zfo(m7:m<=7):∀(b:List Pt)(hs:List Hn)(k:Nat)(a:List D)(T:R.St)(c d e f g:Option D),b.length=hs.length->
  (∀i p h,b[i]?=Φ p->hs[i]?=Φ h->P1 T m r (k+i) p h/\p.hr≠l)->T.get l=Φ (.lst a)->Fr T l->a.length+7*b.length<=500->
  W (zaM [4,5] (exS (callF prog (n+3)) sOut) (enW k b) (Es t x l c d e f g) T) λs U=>(∃c d e f g,s=.nx (Es t x l c d e f g))/\U.get l=Φ (.lst (a++zaS m t k b hs))/\Mv [l] T U
 | [],[]=>by intro k a T c d e f g _ _ j u w;show W (Out.ok (Fl.nx _) T) _;exact⟨⟨c,d,e,f,g,rfl⟩,by simpa[zaS]using j,Mv.refl _ _⟩| [],_::_=>by intro _ _ _ _ _ _ _ _ h;cases h|_::_,[]=>by intro _ _ _ _ _ _ _ _ h;cases h|p::b,h::hs=>by intro k a T c d e f g h0 y j u w;simp at h0 w;let⟨B,nr⟩:=y 0 p h rfl rfl;show W (Out.bind (exS (callF prog (n+3)) sOut (Es t x l (Φ (.int k)) (Φ (.ref p.who)) e f g) T) _) _;rw[zab];refine(zlt B m7 j u (by lia)).mono λs U C=>?_;let⟨⟨e',f',g',rfl⟩,E,v⟩:=C;have hj:=zjh m t k p h;refine(zfo (r:=r) m7 b hs (k+1) (a++zfp m t k p h) U _ _ _ _ _ (by lia) (λi G H I J=>?_) E (u.mv v) (by rw[length_append];lia)).mono λs V L=>?_;let⟨q,A⟩:=y (i+1) G H (by simpa using I) (by simpa using J);rw[show k+1+i=k+(i+1) by lia];refine⟨q.mv v ?_ ?_ (by simpa using A) ?_,A⟩;simp;intro z;have:=q.a;rw[z,j]at this;cases this;simp;intro z;have:=q.w;rw[z,j]at this;cases this;intro M o N O;simp;intro z;have:=q.c M o N O;rw[z,j]at this;cases this;let⟨Q,Y,a3⟩:=L;exact⟨Q,by rw[Y,append_assoc];rfl,v.trans a3⟩
def zgQ:∀(a:List Pt)(k:Nat),(a.map λp=>D.ref p.who).mapIdx (λi d=>zd7 (.int ((i+k:Nat):Int)) d)=enW k a
 | [],_=>rfl| p::a,k=>by rw[Υ,List.mapIdx_cons,enW,<-zgQ a (k+1),zero_add];congr 2;funext i d;rw[show i+1+k=i+(k+1) by lia]
def zjg:c_said_in.body=.asg 3 (.lst .nil) (.forS [4,5] (.enum J1) sOut (.ret J3 .nil)):=rfl
def zkD(N:Nat)(t j:Int)(k:List Int)(o:Int)(b:Bool):flat N (letD t j k o b)=Γ:=by unfold letD zlc;split<;>simp
def zdN(N m:Nat)(t:Int):∀(a:List Pt)(hs:List Hn)(k:Nat),flats N (zaS m t k a hs)=Γ
 | [],_,_=>by simp[zaS]|_::_,[],_=>by simp[zaS]| p::a,h::hs,k=>by rw[zaS,zc2,zdN N m t a hs (k+1),Bool.and_true,zbh];intro d b;let⟨o,_,rfl⟩:=mem_map.mp b;exact zkD _ _ _ _ _ _
def zqY(m7:m<=7)(H:j.length=m)(I:hs.length=m)(s:S.get b=Φ (.lst (j.map λp=>.ref p.who)))(u:∀(i:Nat) p h,j[i]?=Φ p->hs[i]?=Φ h->P1 S m r i p h) :
  app (callF prog (n+4)) 11 [.int t,.ref b,.non] S=.ok (.ref S.len) (S.push (.lst (zaS m t 0 j hs))):=by
 apply W.eq;rw[zh6 rfl rfl,zab,W_ne];show W (Out.bind _ _) _;rw[zab];have w:evE (callF prog (n+3)) (.lst .nil) (zar c_said_in [.int t,.ref b,.non]) S.enter=.ok (.ref S.enter.len) (S.enter.push (.lst [])):=by rfl
 rw[w];show W (Out.bind _ _) _;rw[zab];have k:∀l o,S.get l=Φ o->(S.enter.push (.lst [])).get l=Φ o:=λl o e=>zad (by rw[za6];exact e);have x:evL (callF prog (n+3)) (.enum J1) (Es t (.ref b) S.enter.len Ψ Ψ Ψ Ψ Ψ) (S.enter.push (.lst []))=.ok (enW 0 j,[b]) (S.enter.push (.lst [])):=by show Out.bind (lift (S.enter.push (.lst [])) (Φ (D.ref b))) _=_;rw[zaV,zaj];unfold zb9;dsimp only;rw[k _ _ s];rw[<-zgQ j 0];rfl
 show W (evL (callF prog (n+3)) (.enum J1) (Es t (.ref b) S.enter.len Ψ Ψ Ψ Ψ Ψ) (S.enter.push (.lst []))) _;rw[x,W_ok,zab];unfold za4;rw[zab];have J:=zak s;have y:Fr ({S.enter.push (.lst []) with lk:=[b]++(S.enter.push (.lst [])).lk}:R.St) S.enter.len:=⟨by show(S.frz++S.new).length<=_;exact le_refl _,by
  show([b]:List Nat).contains _=Δ;simp;lia⟩
 refine(zfo (r:=r) m7 j hs 0 [] {S.enter.push (.lst []) with lk:=[b]++(S.enter.push (.lst [])).lk} Ψ Ψ Ψ Ψ Ψ (by lia) (λi p h z A=>?_) (zap _ _) y (by simp;lia)).mono λL U B=>?_;have q:=u i p h z A;rw[zero_add];exact⟨⟨k _ _ q.a,k _ _ q.w,k _ _ q.g,λc l C e=>k _ _ (q.c c l C e),q.k⟩,by have:=zak q.g;rw[R.enter_len];lia⟩;let⟨⟨c,d,e,f,g,rfl⟩,E,v⟩:=B;rw[W_ok];refine W.mono (wS_W (.ret J3 .nil) (Q:=λr T=>wFin S r T λa G=>a=.ref S.len/\G=S.push (.lst (zaS m t 0 j hs))) ?_) λr T q=>by unfold wFin at q;exact q
 refine zdk (by rw[R.enter_len];exact le_refl _) E (by exact zdN _ _ _ _ _ _) ⟨rfl,by rw[List.nil_append]⟩
abbrev zfM(m:Nat):Nat->Nat->List K3
 |_,0=>[]|k,c+1=>(oths m k).map (λo=>((0:Int),[(k:Int)],o))++zfM m (k+1) c
def zo7(t j:Int)(k:List Int)(o:Int)(b:Bool):zea (letD t j k o b)=Φ (0,[j],o):=rfl
def zc0{g h:Type}{f:g->Option h}:∀{xs ys:List g}{as bs:List h},xs.mapM f=Φ as->ys.mapM f=Φ bs->(xs++ys).mapM f=Φ (as++bs)
 | [],ys,as,bs,b,c=>by simp at b;subst b;simpa using c| x::xs,ys,as,bs,b,c=>by
  rw[Ϝ]at b;cases d:f x with
  |none=>rw[d]at b;exact nS b
  |some a=>
   rw[d]at b;cases e:xs.mapM f with
   |none=>rw[e]at b;exact nS b
   |some i=>rw[e]at b;cases b;rw[List.cons_append,Ϝ,d,zc0 e c];rfl
def zrZ(m:Nat)(t:Int)(j:Nat)(p:Pt)(h:Hn):(zfp m t j p h).mapM zea=Φ ((oths m j).map (λo=>((0:Int),[(j:Int)],o))):=by unfold zfp;generalize oths m j=os;induction os with|nil=>rfl|cons o os a=>rw[Υ,Ϝ,a];rfl
def zkc(m:Nat)(t:Int):∀(a:List Pt)(hs:List Hn)(k:Nat),a.length=hs.length->(zaS m t k a hs).mapM zea=Φ (zfM m k a.length)
 | [],[],_,_=>rfl| p::a,h::hs,k,e=>zc0 (zrZ m t k p h) (zkc m t a hs (k+1) (by simpa using e))
def zl2(m:Nat)(i:Int):(oths m i).Pairwise (· < ·):=by unfold oths hnds;apply Pairwise.filter _;rw[pairwise_map];exact Pairwise.imp (λ{a b} h=>by exact_mod_cast h) List.pairwise_lt_range
def zhD(m:Nat):∀(c k:Nat)(x:K3),x∈zfM m k c->∃(j:Nat) (o:Int),x=(0,[(j:Int)],o)/\k<=j
 |0,_,x,h=>by cases h| c+1,k,x,h=>by rcases mem_append.mp h with h|h;let⟨o,_,rfl⟩:=mem_map.mp h;exact⟨k,o,rfl,le_refl _⟩;let⟨j,o,e,a⟩:=zhD m c (k+1) x h;exact⟨j,o,e,by lia⟩
def zfL(m:Nat):∀(c k:Nat),(zfM m k c).Pairwise Lt3
 |0,_=>Pairwise.nil| c+1,k=>by rw[zfM,List.pairwise_append];refine⟨?_,zfL m c (k+1),λx d y e=>?_⟩;rw[pairwise_map];exact(zl2 m k).imp λ{a b} h=>.inr ⟨rfl,.inr ⟨rfl,h⟩⟩;let⟨o,_,rfl⟩:=mem_map.mp d;let⟨j,f,rfl,g⟩:=zhD m c (k+1) y e;refine .inr ⟨rfl,.inl ?_⟩;rw[zdE,if_neg (by lia)];exact decide_eq_true (by lia)
def zhy{c d:Type}{f:c->Option d}:∀{xs:List c}{ys:List d},xs.mapM f=Φ ys->xs.length=ys.length
 | [],ys,h=>by simp at h;subst h;rfl| x::xs,ys,h=>by
  rw[Ϝ]at h;cases e:f x with
  |none=>rw[e]at h;exact nS h
  |some a=>
   rw[e]at h;cases b:xs.mapM f with
   |none=>rw[b]at h;exact nS h
   |some g=>rw[b]at h;cases h;simp[zhy b]
structure Kn(N:Nat)(S T:R.St):Prop where
 frz:T.frz=S.frz
 lk:T.lk=S.lk
 len:S.len<=T.len
 old:∀l o,l<N->S.get l=Φ o->T.get l=Φ o
def Kn.refl(N:Nat)(S:R.St):Kn N S S:=⟨rfl,rfl,le_refl _,λ_ _ _ h=>h⟩
def Kn.trans(a:Kn N S T)(b:Kn N T U):Kn N S U:=⟨b.frz.trans a.frz,b.lk.trans a.lk,le_trans a.len b.len,λl o h e=>b.old l o h (a.old l o h e)⟩
def Kn.of(v:Mv A S T)(h:∀a∈A,N<=a):Kn N S T:=⟨v.frz,v.lk,v.len,λl o b e=>v.old l o (λz=>by have:=h l z;lia) e⟩
@[reducible]def Lt:=Int×Int×Option (List Int)
abbrev ltM(t:Int)(x:Lt):D:=.tup [.int t,.tup [.int x.1],.int x.2.1,tD x.2.2]
abbrev box(a:List Lt)(o:Int):List Ltr:=(a.filter λx=>decide (x.2.1=o)).map λx=>(x.1,x.2.2)
def zb2(a:List Lt)(x:Lt)(o:Int):box (a++[x]) o=if x.2.1=o then box a o++[(x.1,x.2.2)] else box a o:=by unfold box;by_cases h:x.2.1=o<;>simp[h]
structure Bx(N:Nat)(T:R.St)(bx:Nat)(Ls:List Lt)(kvs:List (Int×D)):Prop where
 at_:T.get bx=Φ (.dic kvs)
 fr:Fr T bx
 nw:N<=bx
 no_:∀o,valI kvs o=Ψ->box Ls o=[]
 so_:∀o d,valI kvs o=Φ d->∃b,d=.ref b/\N<=b/\Fr T b/\T.get b=Φ (.lst ((box Ls o).map ltD))
 inj:∀o o' b,valI kvs o=Φ (.ref b)->valI kvs o'=Φ (.ref b)->o=o'
 len:kvs.length<=Ls.length
def zeE(b:List (Int×D))(k j:Int)(v:D):valI (putI b k v) j=if j=k then Φ v else valI b j:=by
 induction b with
 |nil=>by_cases c:j=k;subst c;simp[putI,valI];have f:¬k=j:=λz=>c z.symm;simp[putI,valI,c,f]| cons a r g=>
  let⟨i,d⟩:=a;unfold putI;by_cases e:i=k;subst e;by_cases c:j=i;subst c;simp[valI];have f:¬i=j:=λz=>c z.symm;simp[valI,c,f];rw[if_neg e];by_cases c:i=j;subst c;simp[valI,e];have h:valI ((i,d)::putI r k v) j=valI (putI r k v) j:=by simp[valI,c]
  have l:valI ((i,d)::r) j=valI r j:=by simp[valI,c]
  rw[h,l,g]
def zlE(b:List (Int×D))(k:Int)(v:D):(putI b k v).length<=b.length+1:=by induction b with|nil=>simp[putI]| cons a r c=>unfold putI;split;simp;simp;omega
noncomputable abbrev Ed(t:Int)(x y:D)(d:Nat)(a b c:Option D):Ev:=[Φ (.int t),Φ x,Φ y,Φ (.ref d),a,b,c]
abbrev dIn:CS:=.expr (.mt .append (.dsetI J3 (.ix J4 U2) (.lst .nil)) #[.tup #[.ix J4 U1,.ix J4 U3]]) .nil
def zgL(h:T.get l=Φ (.dic a)):isDi T (.ref l)=Γ:=by unfold isDi;dsimp only;rw[h]
def zdj(h:T.get l=Φ (.dic a)):zf4 T (.ref l) (.int o)=Φ (valI a o):=by unfold zf4;dsimp only;rw[h];rfl
def zmC(B:Bx N T p H r)(hN:N<=T.len)(hl:H.length<=500)(hlk:T.lk.contains T.len=Δ) :
  W (exS cf dIn (Ed t u y p (Φ (ltM tt x)) b c) T) λf U=>f=.nx (Ed t u y p (Φ (ltM tt x)) b c)/\(∃I,Bx N U p (H++[x]) I)/\Kn N T U:=by
 let⟨j,o,w⟩:=x;apply wS_W _;change zgL B.at_;exists rfl;change by decide
 have lb:=zak B.at_;have hbl:(box H o).length<=H.length:=by unfold box;rw[length_map];exact List.length_filter_le _ _
 have J:=zad (o:=.lst []) B.at_;have hlen:=B.len;cases A:valI r o with
 |none=>
  have fT:Fr (T.push (.lst [])) p:=⟨B.fr.f,B.fr.k⟩;let⟨U,hU,G,gU⟩:=zbF fT J;have es:ze8 (T.push (.lst [])) (.ref p) (.int o) (.ref T.len)=Φ (.ref T.len,U):=by unfold ze8;rw[zdj J,A];unfold dPut;dsimp only;rw[J];dsimp [zbz,Ϛ];rw[if_pos (by lia),hU];rfl
  exists es;have nb:T.len≠p:=by lia
  have C:=G.old _ _ (by simpa using nb) (zap T (.lst []));have fL:Fr U T.len:=⟨by rw[G.frz];show T.frz.length<=T.len;unfold St.len;lia,by rw[G.lk];exact hlk⟩;exists C;exists rfl;exists rfl;change show 2<=16777216 by decide
  exists C;change show 1<=16777216 by decide
  let⟨V,hV,m,gV⟩:=zbF fL C;exists hV;have v:=Mv.push [] T (.lst []);refine⟨rfl,⟨putI r o (.ref T.len),?_⟩,?_⟩;have L:∀l q,l≠p->l≠T.len->T.get l=Φ q->V.get l=Φ q:=λl q E k e=>m.old _ _ (by simpa using k) (G.old _ _ (by simpa using E) (v.old _ _ (by simp) e));have i:∀l,Fr T l->Fr V l:=λl h=>((h.mv v).mv G).mv m;refine⟨m.old _ _ (by simpa using nb.symm) gU,i _ B.fr,B.nw,λs g=>?_,λs d g=>?_,λo1 o2 b E k=>?_,?_⟩;rw[zeE]at g;split at g;cases g;rename_i ne;rw[zb2,if_neg (λz=>ne z.symm)];exact B.no_ s g;rw[zeE]at g;split at g;rename_i M;cases g;subst M;refine⟨T.len,rfl,hN,fL.mv m,?_⟩;rw[zb2,if_pos rfl,B.no_ _ A];exact gV;rename_i ne;let⟨b,rfl,k,h3,n⟩:=B.so_ s d g;refine⟨b,rfl,k,i _ h3,?_⟩;rw[zb2,if_neg (λz=>ne z.symm)];refine L _ _ (λz=>?_) (by have:=zak n;lia) n;rw[z,B.at_]at n;cases n
  . rw[zeE]at E k;split at E<;>split at k
    rename_i a1 a2;rw[a1,a2];cases E;let⟨b,e1,_,_,n⟩:=B.so_ o2 _ k;cases e1;have:=zak n;lia;cases k;let⟨b,e1,_,_,n⟩:=B.so_ o1 _ E;cases e1;have:=zak n;lia;exact B.inj o1 o2 b E k
  have:=zlE r o (.ref T.len);simp;lia;refine(Kn.of v (by simp)).trans ((Kn.of G ?_).trans (Kn.of m ?_));intro a O;rw[mem_singleton.mp O];exact B.nw;intro a O;rw[mem_singleton.mp O];exact hN
 |some d=>
  let⟨Q,rfl,Y,fb,gb⟩:=B.so_ o d A;have v:=Mv.push [] T (.lst []);have es:ze8 (T.push (.lst [])) (.ref p) (.int o) (.ref T.len)=Φ (.ref Q,T.push (.lst [])):=by unfold ze8;rw[zdj J,A]
  exists es;have C:(T.push (.lst [])).get Q=Φ (.lst ((box H o).map ltD)):=zad gb;exists C;exists rfl;exists rfl;change show 2<=16777216 by decide
  exists C;change by simp;lia
  let⟨V,hV,m,gV⟩:=zbF (fb.mv v) C;exists hV;have i:∀l,Fr T l->Fr V l:=λl h=>(h.mv v).mv m;have nbx:p≠Q:=λz=>by rw[<-z,B.at_]at gb;cases gb
  refine⟨rfl,⟨r,?_⟩,(Kn.of v (by simp)).trans (Kn.of m (by intro a O;rw[mem_singleton.mp O];exact Y))⟩;refine⟨m.old _ _ (by simpa using nbx) J,i _ B.fr,B.nw,λs g=>?_,λs d g=>?_,B.inj,by rw[length_append];lia⟩;rw[zb2,if_neg (λz=>by rw[<-z]at g;rw[A]at g;cases g)];exact B.no_ s g;by_cases M:o=s;subst M;rw[A]at g;cases g;refine⟨Q,rfl,Y,i _ fb,?_⟩;rw[zb2,if_pos rfl,map_append];exact gV;let⟨b,rfl,k,h3,n⟩:=B.so_ s d g;refine⟨b,rfl,k,i _ h3,?_⟩;rw[zb2,if_neg (λz=>M z)];refine m.old _ _ (λz=>?_) (v.old _ _ (by simp) n);have z:b=Q:=by simpa using z
  subst z;exact M (B.inj o s b A g)
def zbX{T:R.St}(hk:∀l∈T.lk,l<N)(a:N<=T.len):T.lk.contains T.len=Δ:=by rw[Bool.eq_false_iff];intro z;have:=hk _ (List.contains_iff_mem.mp z);lia
def zh2:∀(rest g:List Lt)(e:List (Int×D))(T:R.St)(a:Option D),Bx N T i g e->N<=T.len->(∀l∈T.lk,l<N)->g.length+rest.length<=500->
  W (zaM [4] (exS cf dIn) (rest.map (ltM n)) (Ed t u y i a b c) T) λf U=>(∃a,f=.nx (Ed t u y i a b c))/\(∃d,Bx N U i (g++rest) d)/\Kn N T U
 | [],g,e,T,a,B,_,_,_=>by show W (Out.ok (Fl.nx _) T) _;exact⟨⟨a,rfl⟩,⟨e,by rw[Ϟ];exact B⟩,Kn.refl _ _⟩| x::rest,g,e,T,a,B,j,k,o=>by simp at o;show W (Out.bind (exS cf dIn (Ed t u y i (Φ (ltM n x)) b c) T) _) _;rw[zab];refine(zmC B j (by lia) (zbX k j)).mono λf U p=>?_;let⟨rfl,⟨d,q⟩,v⟩:=p;refine(zh2 rest (g++[x]) d U _ q (le_trans j v.len) (by rw[v.lk];exact k) (by simp;lia)).mono λf V r=>?_;let⟨s,⟨h,m⟩,w⟩:=r;exact⟨s,⟨h,by rw[append_assoc]at m;exact m⟩,v.trans w⟩
abbrev zi8(m:Nat)(r t:Int)(j:Nat)(h:Hn)(a:List Ltr):Hn:=⟨lrn h.K a,h.H++[nowZ j a],enZ h.en t r (nowZ j a) (bfZ m h.H) (lrn h.K a)⟩
open Classical in
abbrev zcE(m:Nat)(r t:Int)(j:Nat)(p:Pt)(h:Hn)(Bs:List Ltr):Hn:=if p.on t then zi8 m r t j h Bs else h
structure FrP(T:R.St)(p:Pt):Prop where
 a:Fr T p.a
 w:Fr T p.wb
 h:Fr T p.hr
abbrev zmx:CS:=.expr (.meth "hear" [(0,25),(1,30)] J6 #[J0,.dgetI J3 J5 (.lst .nil)]) .nil
def zmk(i:P1 S m r j p h)(O:FrP S p)(B:Bx N S bx g s)(hN:N<=S.len)(hk:∀l∈S.lk,l<N)(m7:m<=7)(hs:Sb ws h.K)(hw:ws.length<64)(ok:LOk ws (box g j))(hl:(box g j).length<=50)(u:h.K≠[])(hH:h.H.length<=50) :
  W (exS (callF prog (n+3)) zmx (Ed t x y bx a (Φ (.int j)) (Φ (.ref p.who))) S) λf U=>f=.nx (Ed t x y bx a (Φ (.int j)) (Φ (.ref p.who)))/\Mv [p.a,p.wb,p.hr] S U/\P1 U m r j p (zcE m r t j p h (box g j)):=by
 have w:=Mv.push [] S (.lst []);have hq:∃Q,(valI s j).getD (.ref S.len)=.ref Q/\(S.push (.lst [])).get Q=Φ (.lst ((box g j).map ltD)):=by cases hv:valI s j with|none=>exact⟨S.len,rfl,by rw[B.no_ _ hv];exact zap _ _⟩| some d=>let⟨b,rfl,_,_,gb⟩:=B.so_ _ _ hv;exact⟨b,rfl,zad gb⟩
 let⟨Q,eq,gq⟩:=hq;have gB:=zad (o:=.lst []) B.at_;have A:(S.push (.lst [])).lk.contains (S.push (.lst [])).len=Δ:=zbX hk (by rw[plen];lia);have C:=Nat.lt_of_le_of_lt (hs.lrn ok).len hw;have fa:=O.a.mv w;have fw:=O.w.mv w;have fh:=O.h.mv w;have Y:=zad (o:=.lst []) i.a;have ew:=zad (o:=.lst []) i.w;have eg:=zad (o:=.lst []) i.g;let⟨E,J,L,pc⟩:=p;cases pc with
 |none=>
  have q:=zm6 (n:=n+1) (t:=t) Y fa fw fh A ew eg gq m7 hs hw ok hl u hH;apply wS_W _;exists zaI i.a;exists rfl;change rfl;change zgL B.at_;change by decide
  exists zdj gB;rw[eq];refine za2 (q.mono λd T hT=>?_);let⟨_,v,g1,g2,g3⟩:=hT;refine⟨rfl,(w.up (by simp)).trans v,?_⟩;have G:zcE m r t j ⟨E,J,L,Ψ⟩ h (box g j)=zi8 m r t j h (box g j):=if_pos trivial;rw[G];exact⟨g1,g2,g3,(λc e H z=>nS z),C⟩
 |some z=>
  let⟨c,e,H⟩:=z;have k:=i.c c e H rfl;have q:=zo2 (n:=n) (t:=t) (zad k) Y fa fw fh A ew eg gq m7 hs hw ok hl u hH;apply wS_W _;exists zaI k;exists rfl;change rfl;change zgL B.at_;change by decide
  exists zdj gB;rw[eq];refine za2 (q.mono λd T hT=>?_);let⟨_,v,g1,g2⟩:=hT;refine⟨rfl,(w.up (by simp)).trans v,?_⟩;have nca:c∉[E,J,L]:=by intro hm;simp at hm;rcases hm with z|z|z;rw[z,i.a]at k;cases k;rw[z,i.w]at k;cases k;rw[z,i.g]at k;cases k
  have I:=v.old _ _ nca (zad k);by_cases M:t<e;have G:zcE m r t j ⟨E,J,L,Φ (c,e,H)⟩ h (box g j)=zi8 m r t j h (box g j):=if_pos M;rw[G];let⟨a1,a2,a3⟩:=g1 M;exact⟨a1,a2,a3,(λc' l' r' z=>by cases z;exact I),C⟩;have G:zcE m r t j ⟨E,J,L,Φ (c,e,H)⟩ h (box g j)=h:=if_neg M;rw[G];have:=g2 M;subst this;exact⟨Y,ew,eg,(λc' l' r' z=>by cases z;exact I),i.k⟩
abbrev adr(p:Pt):List Nat:=[p.a,p.wb,p.hr]
def Bx.mv(B:Bx N T c f a)(v:Mv A T U)(h:∀x∈A,x<N):Bx N U c f a:=⟨v.old _ _ (λz=>by have:=h _ z;have:=B.nw;lia) B.at_,B.fr.mv v,B.nw,B.no_,λo d e=>let ⟨b,g,i,j,k⟩:=B.so_ o d e;⟨b,g,i,j.mv v,v.old _ _ (λz=>by have:=h _ z;lia) k⟩,B.inj,B.len⟩
structure Oh(ws:List Int)(Ls:List Lt)(j:Nat)(h:Hn):Prop where
 sb:Sb ws h.K
 ok:LOk ws (box Ls j)
 l:(box Ls j).length<=50
 k:h.K≠[]
 hh:h.H.length<=50
def P1.away(x:P1 S m r j p h)(v:Mv A S T)(n:∀y∈adr p,y∉A)(b:∀c a d,p.cr=Φ (c,a,d)->c∉A):P1 T m r j p h:=x.mv v (n _ (by simp[adr])) (n _ (by simp[adr])) (n _ (by simp[adr])) b
def zkT(x:P1 S m r j p h)(y:P1 S m r k q g):∀c a d,p.cr=Φ (c,a,d)->c∉adr q:=by intro c a d e f;have b:=x.c c a d e;simp[adr]at f;rcases f with z|z|z;rw[z,y.a]at b;cases b;rw[z,y.w]at b;cases b;rw[z,y.g]at b;cases b
def FrP.mv(h:FrP S p)(v:Mv A S T):FrP T p:=⟨h.a.mv v,h.w.mv v,h.h.mv v⟩
def zfT(m7:m<=7)(hw:ws.length<64):∀(j:List Pt)(hs:List Hn)(k:Nat)(T:R.St)(b c:Option D),j.length=hs.length->Bx N T H M kvs->N<=T.len->(∀l∈T.lk,l<N)->
  (∀i p h,j[i]?=Φ p->hs[i]?=Φ h->P1 T m r (k+i) p h/\FrP T p/\Oh ws M (k+i) h/\∀z∈adr p,z<N)->j.Pairwise (λp q=>∀z∈adr p,z∉adr q)->
  W (zaM [5,6] (exS (callF prog (n+3)) zmx) (enW k j) (Ed t x y H a b c) T) λf U=>(∃b c,f=.nx (Ed t x y H a b c))/\Mv (j.flatMap adr) T U/\∀i p h,j[i]?=Φ p->hs[i]?=Φ h->P1 U m r (k+i) p (zcE m r t (k+i) p h (box M ((k+i:Nat):Int)))
 | [],[],k,T,b,c,_,_,_,_,_,_=>by show W (Out.ok (Fl.nx _) T) _;exact⟨⟨b,c,rfl⟩,Mv.refl _ _,λi p h e=>by simp at e⟩| p::j,h::hs,k,T,b,c,h0,B,O,Q,I,C=>by
  simp at h0;rw[pairwise_cons]at C;let⟨J,fp,s,ad⟩:=I 0 p h rfl rfl;show W (Out.bind (exS (callF prog (n+3)) zmx (Ed t x y H a (Φ (.int k)) (Φ (.ref p.who))) T) _) _;rw[zab];refine(zmk J fp B O Q m7 s.sb hw s.ok s.l s.k s.hh).mono λf U hU=>?_;let⟨rfl,v,px⟩:=hU;refine(zfT (r:=r) m7 hw j hs (k+1) U _ _ (by lia) (B.mv v ad) (le_trans O v.len) (by rw[v.lk];exact Q) (λi q g u E=>?_) C.2).mono λf V hV=>?_;let⟨G,fq,og,aq⟩:=I (i+1) q g (by simpa using u) (by simpa using E);rw[show k+1+i=k+(i+1) by lia];exact⟨G.away v (λz o d=>(C.1 q (mem_of_getElem? u) z d o)) (zkT G J),fq.mv v,og,aq⟩;let⟨hf,w,hp⟩:=hV;refine⟨hf,(v.up (by intro z o;exact mem_append_left _ o)).trans (w.up (by intro z o;exact mem_append_right _ o)),λi q g u E=>?_⟩;cases i with
  |zero=>
   cases u;cases E;refine px.away w (λz o d=>?_) (λc' A rs ec d=>?_);let⟨q,L,d⟩:=List.mem_flatMap.mp d;exact C.1 q L z o d;let⟨q,L,d⟩:=List.mem_flatMap.mp d;let⟨i,Y⟩:=mem_iff_getElem?.mp L;have hil:i<hs.length:=by have:=(Α.mp Y).1;lia
   let⟨G,_,_,_⟩:=I (i+1) q hs[i] (by simpa using Y) (by simp);exact zkT J G c' A rs ec d
  |succ i=>have:=hp i q g (by simpa using u) (by simpa using E);rw[show k+1+i=k+(i+1) by lia]at this;exact this
def zrL{L:List Nat}(h:∀l∈L,l<N)(a:N<=b):L.contains b=Δ:=by rw[Bool.eq_false_iff];intro z;have:=h _ (List.contains_iff_mem.mp z);lia
def Bx.relk(B:Bx N T f g a)(h:∀l∈L,l<N):Bx N ({T with lk:=L}:R.St) f g a:=⟨B.at_,⟨B.fr.f,zrL h B.nw⟩,B.nw,B.no_,λo d e=>let ⟨b,i,c,j,k⟩:=B.so_ o d e;⟨b,i,c,⟨j.f,zrL h c⟩,k⟩,B.inj,B.len⟩
def zf0:c_deliver.body=.asg 3 .dnew (.forS [4] (.val J2) dIn (.forS [5,6] (.enum J1) zmx .nil)):=rfl
def zjn{ps:List Pt}{hs:List Hn}(m7:m<=7)(hw:ws.length<64)(hp:ps.length=hs.length)(hg:S.get th=Φ (.lst (ps.map λp=>.ref p.who)))(hsd:S.get sd=Φ (.lst (Ls.map (ltM tt))))(hL:Ls.length<=400)(hk:∀l∈S.lk,l<S.len)
  (h1:∀(i:Nat) p h,ps[i]?=Φ p->hs[i]?=Φ h->P1 S m r i p h/\FrP S p/\Oh ws Ls i h) (dj:ps.Pairwise (λp q=>∀z∈adr p,z∉adr q)) (nt:∀p∈ps,th∉adr p) (nth:th≠sd) :
  W (appW (callF prog (n+4)) 12 [.int t,.ref th,.ref sd] S) λd U=>d=.non/\U.frz=S.frz/\U.lk=S.lk/\S.len<=U.len/\(∀l o,l∉ps.flatMap adr->S.get l=Φ o->U.get l=Φ o)/\∀(i:Nat) p h,ps[i]?=Φ p->hs[i]?=Φ h->P1 U m r i p (zcE m r t i p h (box Ls ((i:Nat):Int))):=by
 apply zbG rfl rfl;show W (Out.bind _ _) _;rw[zab];have e0:evE (callF prog (n+3)) .dnew (zar c_deliver [.int t,.ref th,.ref sd]) S=.ok (.ref S.len) (S.push (.dic [])):=by (conv=>lhs;whnf)
 show W (Out.bind _ _) _;rw[zab];have up:∀l o,S.get l=Φ o->(S.push (.dic [])).get l=Φ o:=λl o e=>zad e;have e1:evL (callF prog (n+3)) (.val J2) (Ed t (.ref th) (.ref sd) S.len Ψ Ψ Ψ) (S.push (.dic []))=.ok (Ls.map (ltM tt),[sd]) (S.push (.dic [])):=by show Out.bind (lift (S.push (.dic [])) (Φ (D.ref sd))) _=_;rw[zaV,zaj];unfold zbe;dsimp only;rw[up _ _ hsd];rfl
 show W (evL (callF prog (n+3)) (.val J2) (Ed t (.ref th) (.ref sd) S.len Ψ Ψ Ψ) (S.push (.dic []))) _;rw[e1,W_ok,zab];unfold za4;rw[zab];have lsd:=zak hsd;have lth:=zak hg;have fr0:S.frz.length<=S.len:=by unfold St.len;lia
 have B0:Bx S.len ({S.push (.dic []) with lk:=[sd]++(S.push (.dic [])).lk}:R.St) S.len [] []:=by refine⟨zap _ _,⟨fr0,?_⟩,le_refl _,λo _=>rfl,(λo d e=>nS e),(λo o' b e=>nS e),le_refl _⟩;show(sd::S.lk).contains S.len=Δ;rw[Ϣ,zbX hk (le_refl _)];lia
 refine(zh2 Ls [] [] _ Ψ B0 (by show S.len<=(S.push (.dic [])).len;rw[plen];lia) (by
  intro l hl;rcases mem_cons.mp hl with rfl|hl;exact lsd;exact hk l hl) (by simp;lia)).mono λf T hT=>?_
 let⟨⟨a,rfl⟩,⟨kvs,B⟩,kn⟩:=hT;have old:∀l o,S.get l=Φ o->({T with lk:=S.lk}:R.St).get l=Φ o:=λl o e=>kn.old l o (zak e) (up l o e);have el:evL (callF prog (n+3)) (.enum J1) (Ed t (.ref th) (.ref sd) S.len a Ψ Ψ) {T with lk:=S.lk}=.ok (enW 0 ps,[th]) {T with lk:=S.lk}:=by show Out.bind (lift ({T with lk:=S.lk}:R.St) (Φ (D.ref th))) _=_;rw[zaV,zaj];unfold zb9;dsimp only;rw[old _ _ hg];rw[<-zgQ ps 0];rfl
 apply zb0 el;have hk2:∀l∈th::S.lk,l<S.len:=λl hl=>by rcases mem_cons.mp hl with rfl|hl;exact lth;exact hk l hl
 have lenT : S.len ≤ T.len := by have := kn.len; have e : S.len + 1 ≤ T.len := by rw [← plen S (.dic [])]; exact this
                                 lia
 refine(zfT (r:=r) m7 hw ps hs 0 ({T with lk:=th::S.lk}:R.St) Ψ Ψ hp (B.relk hk2) lenT hk2 (λi p h e1 e2=>?_) dj).mono λf U hU=>?_;let⟨q,fp,oh⟩:=h1 i p h e1 e2;rw[zero_add];have ntp:=nt p (mem_of_getElem? e1);simp[adr]at ntp;have frT:=kn.frz;have fk:∀z,Fr S z->z≠th->Fr ({T with lk:=th::S.lk}:R.St) z:=λz hz hn=>⟨by rw[frT];exact hz.f,by
  rw[Ϣ,hz.k];simpa using hn⟩
 refine⟨⟨old _ _ q.a,old _ _ q.w,old _ _ q.g,λc l rs e=>old _ _ (q.c c l rs e),q.k⟩,⟨fk _ fp.a (Ne.symm ntp.1),fk _ fp.w (Ne.symm ntp.2.1),fk _ fp.h (Ne.symm ntp.2.2)⟩,oh,λz hz=>?_⟩;simp[adr]at hz;rcases hz with rfl|rfl|rfl;exact zak q.a;exact zak q.w;exact zak q.g;let⟨⟨b,c,rfl⟩,v,hP⟩:=hU;refine⟨rfl,v.frz.trans kn.frz,rfl,le_trans lenT v.len,λl o hl e=>v.old l o hl (old l o e),λi p h e1 e2=>?_⟩;have q:=hP i p h e1 e2;rw[zero_add]at q;exact⟨q.a,q.w,q.g,q.c,q.k⟩
abbrev ltJ(m:Nat)(t:Int)(j:Nat)(p:Pt)(h:Hn):List Lt:=(oths m j).map λo=>((j:Int),o,if p.rch t o=Γ then Φ (zaq h.K) else Ψ)
abbrev ltF(m:Nat)(t:Int):Nat->List Pt->List Hn->List Lt
 |k,p::a,h::b=>ltJ m t k p h++ltF m t (k+1) a b|_,_,_=>[]
def zo8(t j:Int)(k:List Int)(o:Int)(b:Bool):letD t j k o b=ltM t (j,o,if b=Γ then Φ k else Ψ):=by cases b<;>rfl
def zbR(m:Nat)(t:Int):∀(a:List Pt)(hs:List Hn)(k:Nat),zaS m t k a hs=(ltF m t k a hs).map (ltM t)
 | [],_,_=>by simp[zaS,ltF]|_::_,[],_=>by simp[zaS,ltF]| p::a,h::hs,k=>by rw[zaS,ltF,map_append,zbR m t a hs (k+1)];congr 1;unfold zfp ltJ;rw[ϒ];exact List.map_congr_left λo _=>zo8 _ _ _ _ _
def ze0(m:Nat)(t:Int):∀(a:List Pt)(hs:List Hn)(k:Nat),(ltF m t k a hs).length<=m*a.length
 | [],_,_=>by simp[ltF]|_::_,[],_=>by simp[ltF]| p::a,h::hs,k=>by
  have b:=ze0 m t a hs (k+1);have c:(ltJ m t k p h).length<=m:=by unfold ltJ;rw[length_map];exact zct m k
  rw[ltF,length_append,ϊ];lia
def zsM(h:P[f]?=Φ F)(a:ds.length=F.np)(b:3<=n)(w:W (exS (callF P n) F.body (zar F ds) S) λr T=>match r with|.nx _=>Q .non T|.rt d=>Q d T|.ex _=>False)(c:F.prim=Φ .lam:=by rfl):W (appW (callF P (n+1)) f ds S) Q:=by unfold appW;simp[callF,h,a,c,b];refine w.mono λr T q=>?_;cases r<;>first|exact q|exact q.elim
abbrev rndF(m:Nat)(r t:Int)(a:List Lt):Nat->List Pt->List Hn->List Hn
 |k,p::b,h::c=>zcE m r t k p h (box a ((k:Nat):Int))::rndF m r t a (k+1) b c|_,_,_=>[]
abbrev rnd(m:Nat)(r t:Int)(a:List Pt)(hs:List Hn):List Hn:=rndF m r t (ltF m t 0 a hs) 0 a hs
def zdd(m:Nat)(r t:Int)(b:List Lt):∀(a:List Pt)(hs:List Hn)(k i:Nat)(g:Hn),(rndF m r t b k a hs)[i]?=Φ g->∃p h,a[i]?=Φ p/\hs[i]?=Φ h/\g=zcE m r t (k+i) p h (box b ((k+i:Nat):Int))
 | [],_,_,i,g,e=>by simp[rndF]at e|_::_,[],_,i,g,e=>by simp[rndF]at e| p::a,h::hs,k,0,g,e=>by cases e;exact⟨p,h,rfl,rfl,rfl⟩| p::a,h::hs,k,i+1,g,e=>by rw[rndF]at e;let⟨q,x,c,d,f⟩:=zdd m r t b a hs (k+1) i g (by simpa using e);exact⟨q,x,by simpa using c,by simpa using d,by rw[f,show k+1+i=k+(i+1) by lia]⟩
def zdc(m:Nat)(r t:Int)(b:List Lt):∀(a:List Pt)(hs:List Hn)(k:Nat),a.length=hs.length->(rndF m r t b k a hs).length=hs.length
 | [],[],_,_=>rfl|p::a,h::hs,k,e=>by rw[rndF,ϊ,ϊ,zdc m r t b a hs (k+1) (by simpa using e)]
abbrev rB:CS:=.asg 5 (.srtK (.call 11 0 #[J4,J0,J2])) (.expr (.callW 12 0 #[J4,J0,J5]) (.expr (.extv J3 J5) .nil))
structure Tn(T:R.St)(m:Nat)(r:Int)(th lt:Nat)(ps:List Pt)(hs:List Hn)(acc:List D):Prop where
 lp:ps.length=m
 lh:hs.length=m
 hg:T.get th=Φ (.lst (ps.map λp=>.ref p.who))
 p1:∀(i:Nat) p h,ps[i]?=Φ p->hs[i]?=Φ h->P1 T m r i p h/\FrP T p
 dj:ps.Pairwise (λp q=>∀z∈adr p,z∉adr q)
 nt:∀p∈ps,th∉adr p
 nl:∀p∈ps,lt∉adr p
 ne:th≠lt
 hk:∀l∈T.lk,l<T.len
 gl:T.get lt=Φ (.lst acc)
 fl:Fr T lt
noncomputable abbrev Er(c:Nat)(d:Int)(e:Nat)(a b:Option D):Ev:=[Φ (.ref c),Φ (.int d),Φ .non,Φ (.ref e),a,b]
def zj7(h:T.get l=Φ (.lst (zaS m t 0 a hs)))(e:a.length=hs.length):zfK T (.ref l)=Φ (zaS m t 0 a hs,zfM m 0 a.length):=by unfold zfK;dsimp only;rw[h];dsimp only;rw[zkc m t a hs 0 e];rfl
def zlu(X:Tn T m r Q A a hs s)(m7:m<=7)(hw:ws.length<64)(ha:s.length<=1000)(oh:∀(i:Nat) p h,a[i]?=Φ p->hs[i]?=Φ h->Oh ws (ltF m t 0 a hs) i h) :
  W (exS (callF prog (n+5)) rB (Er Q rr A (Φ (.int t)) b) T) λf U=>(∃b,f=.nx (Er Q rr A (Φ (.int t)) b))/\Tn U m r Q A a (rnd m r t a hs) (s++zaS m t 0 a hs)/\U.lk=T.lk/\U.frz=T.frz/\∀l o,l≠A->(∀p∈a,l∉adr p)->T.get l=Φ o->U.get l=Φ o:=by
 have u:a.length=hs.length:=by rw[X.lp,X.lh]
 have hsd:=zqY (n:=n+1) (t:=t) m7 X.lp X.lh X.hg (λi p h v C=>(X.p1 i p h v C).1);have kl:=(zhy (zkc m t a hs 0 u)).symm;have sl:(zaS m t 0 a hs).length<=49:=by rw[zbR,length_map];have:=ze0 m t a hs 0;have h2:m*a.length<=7*7:=Nat.mul_le_mul m7 (by rw[X.lp];exact m7);lia
 apply wS_W _;specialize hsd;exists zj7 (zap _ _) u;change⟨by lia,zfL m a.length 0⟩;left;change show(zaS m t 0 a hs).length<=16777216 by lia
 generalize E:(T.push (.lst (zaS m t 0 a hs))).push (.lst (zaS m t 0 a hs))=S2;have j:Mv [] T S2:=by rw[<-E];exact(Mv.push [] _ _).trans (Mv.push [] _ _)
 have G:S2.get (T.push (.lst (zaS m t 0 a hs))).len=Φ (.lst ((ltF m t 0 a hs).map (ltM t))):=by rw[<-E,<-zbR];exact zap _ _
 generalize H:(T.push (.lst (zaS m t 0 a hs))).len=Y at *;have lsd:T.len<=Y:=by rw[<-H,plen];lia
 have lth:=zak X.hg;refine za2 ((zjn (r:=r) m7 hw u (j.old _ _ (by simp) X.hg) G (by rw[zbR,length_map]at sl;lia) (by rw[j.lk];exact λl I=>lt_of_lt_of_le (X.hk l I) j.len) (λi p h v C=>?_) X.dj X.nt (by lia)).mono λd U hU=>?_);let⟨q,J⟩:=X.p1 i p h v C;exact⟨q.mv j (by simp) (by simp) (by simp) (by simp),J.mv j,oh i p h v C⟩;let⟨_,uf,uk,ul,uo,up⟩:=hU;have w:∀l,(∀p∈a,l∉adr p)->l∉a.flatMap adr:=λl I L=>by let⟨p,x,L⟩:=List.mem_flatMap.mp L;exact I p x L
 have y:∀p∈a,∀z∈adr p,z<T.len:=λp x z M=>by
  let⟨i,hi⟩:=mem_iff_getElem?.mp x;have hil:i<hs.length:=by have:=(Α.mp hi).1;lia
  let⟨q,_⟩:=X.p1 i p hs[i] hi (by simp);simp[adr]at M;rcases M with rfl|rfl|rfl;exact zak q.a;exact zak q.w;exact zak q.g
 have B:=uo _ _ (w A X.nl) (j.old _ _ (by simp) X.gl);have gs3:U.get Y=Φ (.lst (zaS m t 0 a hs)):=by rw[zbR];exact uo _ _ (w Y λp x L=>by have:=y p x Y L;lia) G
 have N:Fr U A:=⟨by rw[uf,j.frz];exact X.fl.f,by rw[uk,j.lk];exact X.fl.k⟩;exists B;exists by unfold lsts;dsimp only;rw[B,gs3]
 change show(s++zaS m t 0 a hs).length<=16777216 by rw[length_append];lia
 let⟨V,hV,k,gV⟩:=zbF N B;exists hV;refine⟨⟨_,rfl⟩,⟨X.lp,?_,k.old _ _ (by simpa using X.ne) (uo _ _ (w Q X.nt) (j.old _ _ (by simp) X.hg)),λi p g v C=>?_,X.dj,X.nt,X.nl,X.ne,?_,gV,N.mv k⟩,by rw[k.lk,uk,j.lk],by rw[k.frz,uf,j.frz],λl o h1 h2 e=>k.old _ _ (by simpa using h1) (uo _ _ (w l h2) (j.old _ _ (by simp) e))⟩;unfold rnd;rw[zdc m r t _ a hs 0 u];exact X.lh;let⟨p',h,f1,f2,rfl⟩:=zdd m r t _ a hs 0 i g C;rw[v]at f1;cases f1;rw[zero_add];have q:=up i p h v f2;have x:=mem_of_getElem? v;let⟨q0,J⟩:=X.p1 i p h v f2;refine⟨q.mv k ?_ ?_ ?_ ?_,?_⟩;simp;exact λz=>X.nl p x (by rw[<-z];simp[adr]);simp;exact λz=>X.nl p x (by rw[<-z];simp[adr]);simp;exact λz=>X.nl p x (by rw[<-z];simp[adr]);intro c O rs e;simp;intro z;have:=q0.c c O rs e;rw[z,X.gl]at this;cases this;have tr:∀z,Fr T z->Fr V z:=λz M=>⟨by rw[k.frz,uf,j.frz];exact M.f,by rw[k.lk,uk,j.lk];exact M.k⟩;exact⟨tr _ J.a,tr _ J.w,tr _ J.h⟩;rw[k.lk,uk,j.lk];exact λl I=>lt_of_lt_of_le (X.hk l I) (le_trans j.len (le_trans ul k.len))
structure Gh(ws:List Int)(c:Nat)(h:Hn):Prop where
 sb:Sb ws h.K
 k:h.K≠[]
 hh:h.H.length<=c
def zpz(a:List Lt)(o:Int):(box a o).length<=a.length:=by unfold box;rw[length_map];exact List.length_filter_le _ _
def zhB:∀(b:List Pt)(hs:List Hn)(k:Nat),(∀h∈hs,Gh ws c h)->∀x∈ltF m t k b hs,∀p,x.2.2=Φ p->p.length<=ws.length/\∀w∈p,w∈ws
 | [],_,_,_,x,a=>by simp[ltF]at a|_::_,[],_,_,x,a=>by simp[ltF]at a| q::b,h::hs,k,e,x,a=>by rcases mem_append.mp a with a|a;let⟨o,_,rfl⟩:=mem_map.mp a;intro p d;have g:=e h (by simp);split at d;cases d;refine⟨by rw[zcm];exact g.sb.len,λw f=>g.sb.sub w ((zas h.K).mem_iff.mp f)⟩;exact nS d;exact zhB b hs (k+1) (λg i=>e g (by simp[i])) x a
def zsO(hw:ws.length<=7)(m7:m<=7)(e:a.length=m)(l:c<=50)(b:∀h∈hs,Gh ws c h):∀(i:Nat) p h,a[i]?=Φ p->hs[i]?=Φ h->Oh ws (ltF m t 0 a hs) i h:=by intro i p h n f;have g:=b h (mem_of_getElem? f);refine⟨g.sb,λx d q j=>?_,?_,g.k,by have:=g.hh;lia⟩;let⟨y,k,rfl⟩:=mem_map.mp d;have:=zhB a hs 0 b y (mem_filter.mp k).1 q j;exact⟨by lia,this.2⟩;have o:=zpz (ltF m t 0 a hs) i;have r:=ze0 m t a hs 0;have s:m*a.length<=7*7:=Nat.mul_le_mul m7 (by rw[e];exact m7);lia
def znr(hw:ws.length<=7)(m7:m<=7)(e:a.length=m)(f:c<=50)(b:∀h∈hs,Gh ws c h):∀g∈rnd m r t a hs,Gh ws (c+1) g:=by intro g j;let⟨i,k⟩:=mem_iff_getElem?.mp j;let⟨p,h,l,d,rfl⟩:=zdd m r t _ a hs 0 i g k;have o:=zsO (t:=t) hw m7 e f b i p h l d;have gh:=b h (mem_of_getElem? d);rw[zero_add];unfold zcE;split;exact⟨o.sb.lrn o.ok,zm7 o.k,by show(h.H++[_]).length<=c+1;have:=gh.hh;simp;omega⟩;exact⟨gh.sb,gh.k,by have:=gh.hh;omega⟩
abbrev rnds(m:Nat)(r:Int)(b:List Pt):Nat->Nat->List Hn->List Hn
 |_,0,a=>a|t,c+1,a=>rnds m r b (t+1) c (rnd m r t b a)
abbrev lets(m:Nat)(r:Int)(a:List Pt):Nat->Nat->List Hn->List D
 |_,0,_=>[]|t,c+1,b=>zaS m t 0 a b++lets m r a (t+1) c (rnd m r t a b)
abbrev zeF:Nat->Nat->List D
 |_,0=>[]|t,c+1=>.int (t:Nat)::zeF (t+1) c
def zhe(m7:m<=7)(hw:ws.length<=7):∀(c t:Nat)(hs:List Hn)(g:List D)(T:R.St)(a b:Option D)(d:Nat),Tn T m r k j i hs g->(∀h∈hs,Gh ws d h)->d+c<=50->g.length+49*c<=1000->
  W (zaM [4] (exS (callF prog (n+5)) rB) (zeF t c) (Er k q j a b) T) λf U=>(∃a b,f=.nx (Er k q j a b))/\Tn U m r k j i (rnds m r i t c hs) (g++lets m r i t c hs)/\U.lk=T.lk/\U.frz=T.frz/\∀l o,l≠j->(∀p∈i,l∉adr p)->T.get l=Φ o->U.get l=Φ o
 |0,t,hs,g,T,a,b,d,X,_,_,_=>by show W (Out.ok (Fl.nx _) T) _;exact⟨⟨a,b,rfl⟩,by rw[lets,Ϟ];exact X,rfl,rfl,λl o _ _ e=>e⟩| c+1,t,hs,g,T,a,b,d,X,G,I,J=>by
  show W (Out.bind (exS (callF prog (n+5)) rB (Er k q j (Φ (.int (t:Nat))) b) T) _) _;rw[zab];have L:(zaS m t 0 i hs).length<=49:=by rw[zbR,length_map];have:=ze0 m (t:Int) i hs 0;have s:m*i.length<=7*7:=Nat.mul_le_mul m7 (by rw[X.lp];exact m7);lia
  refine(zlu X m7 (by lia) (by lia) (zsO hw m7 X.lp (by lia) G)).mono λf U w=>?_;let⟨⟨M,rfl⟩,Y,x,s,y⟩:=w;refine(zhe m7 hw c (t+1) (rnd m r t i hs) (g++zaS m t 0 i hs) U _ _ (d+1) Y (znr hw m7 X.lp (by lia) G) (by lia) (by rw[length_append];lia)).mono λf V z=>?_;let⟨A,B,C,E,H⟩:=z;refine⟨A,?_,C.trans x,E.trans s,λl o u v e=>H l o u v (y l o u v e)⟩;rw[lets,<-append_assoc];exact B
def zcl:∀(c t:Nat),(List.range c).map (λ(k:Nat)=>D.int ((t:Int)+k))=zeF t c
 |0,_=>rfl| c+1,t=>by rw[List.range_succ_eq_map,Υ,zeF,<-zcl c (t+1)];simp;lia
structure T0(S:R.St)(m:Nat)(r:Int)(th:Nat)(ps:List Pt)(hs:List Hn):Prop where
 lp:ps.length=m
 lh:hs.length=m
 hg:S.get th=Φ (.lst (ps.map λp=>.ref p.who))
 p1:∀(i:Nat) p h,ps[i]?=Φ p->hs[i]?=Φ h->P1 S m r i p h/\FrP S p
 dj:ps.Pairwise (λp q=>∀z∈adr p,z∉adr q)
 nt:∀p∈ps,th∉adr p
 hk:∀l∈S.lk,l<S.len
def zto{r z:Int}(X:T0 S m r th ps hs)(m7:m<=7)(hw:ws.length<=7)(G:∀h∈hs,Gh ws 0 h)(hc:c<=8)(hz:z=(c:Nat)) :
  W (appW (callF prog (n+6)) 10 [.ref th,.int z,.non] S) λd U=>d=.ref S.len/\Tn U m r th S.len ps (rnds m r ps 1 c hs) (lets m r ps 1 c hs)/\U.lk=S.lk/\U.frz=S.frz/\∀l o,(∀p∈ps,l∉adr p)->S.get l=Φ o->U.get l=Φ o:=by
 apply zsM rfl rfl (by lia);show W (exS (callF prog (n+5)) (.forS [4] (.rng2 U1 (.bin .Add J1 U1)) rB (.ret J3 .nil)) (Er th z S.len Ψ Ψ) (S.push (.lst []))) _;have mP:=Mv.push [] S (.lst []);have el:evL (callF prog (n+5)) (.rng2 U1 (.bin .Add J1 U1)) (Er th z S.len Ψ Ψ) (S.push (.lst []))=.ok (zeF 1 c,[]) (S.push (.lst [])):=by generalize hδ:Er th z S.len Ψ Ψ=δ;refine W.eq (wL_W _ ?_);subst hδ;change⟨by decide,by decide,Int.le_trans (by decide) (show(0:Int)<=z+1 by lia),Int.lt_of_le_of_lt (show z+1<=9 by lia) (by decide)⟩;refine⟨?_,rfl⟩;rw[<-zcl c 1,show(z+1-1).toNat=c by lia];rfl
 generalize hδ:Er th z S.len Ψ Ψ=δ at el⊢;apply zb0 el;subst hδ;have Y:Tn (S.push (.lst [])) m r th S.len ps hs []:=by
  have lt_adr:∀p∈ps,∀z∈adr p,z<S.len:=λp hp z hz=>by
   let⟨i,hi⟩:=mem_iff_getElem?.mp hp;have hil:i<hs.length:=by have:=(Α.mp hi).1;rw[X.lp]at this;rw[X.lh];exact this
   let⟨q,_⟩:=X.p1 i p hs[i] hi (by simp);simp[adr]at hz;rcases hz with rfl|rfl|rfl;exact zak q.a;exact zak q.w;exact zak q.g
  have lth:=zak X.hg;exact⟨X.lp,X.lh,zad X.hg,λi p h e1 e2=>let ⟨q,f⟩:=X.p1 i p h e1 e2;⟨q.mv mP (by simp) (by simp) (by simp) (by simp),f.mv mP⟩,X.dj,X.nt,λp hp hm=>by have:=lt_adr p hp _ hm;lia,by lia,λl hl=>by have:=X.hk l hl;rw[plen];lia,zap _ _,⟨by show S.frz.length<=S.len;unfold St.len;lia,zbX X.hk (le_refl _)⟩⟩
 refine(zhe m7 hw c 1 hs [] _ Ψ Ψ 0 Y G (by lia) (by simp;lia)).mono λf U hU=>?_;let⟨⟨a,b,rfl⟩,Z,h1,h2,h3⟩:=hU;have eU:=zj4 (h1.trans rfl);rw[eU];exact⟨rfl,Z,h1,h2,λl o a1 e=>h3 l o (by have:=zak e;lia) a1 (zad e)⟩
def zl6(e:S.get a=Φ (.ins 1 []))(hf:Fr S a):W (appW (callF prog (n+1)) 37 [.ref a,.int i,.int m,.int r] S) λd T=>Mv [a] S T/\T.get a=Φ (.ins 1 [("number",.int i),("many",.int m),("rounds",.int r)]):=by refine zbG rfl rfl (wS_W _ ?_);let⟨q,g,b,h⟩:=zbd (gs:=[("number",.int i)]) e hf (by simp) rfl;let⟨s,j,c,k⟩:=zbd (f:="many") (gs:=[("number",.int i),("many",.int m)]) h (hf.mv b) (by simp) rfl;let⟨t,l,o,p⟩:=zbd k ((hf.mv b).mv c) (by simp) rfl;exists g;exists j;exists l;exact⟨(b.trans c).trans o,p⟩
def zo1(e:S.get c=Φ (.ins 1 []))(hf:Fr S c)(ea:S.get a=Φ (hD i m r wb hr en))(hl:rs.length<=1000) :
  W (appW (callF prog (n+2)) 29 [.ref c,.ref a,.int last,pD rs] S) λd T=>d=.non/\Mv [c] S T/\T.get c=Φ (cD i m r a last rs):=by
 refine zbG rfl rfl (wS_W _ ?_);exists zdi ea;exists zkG ea;exists zhP ea;refine za2 ((zl6 e hf).mono λd T hT=>?_);let⟨v1,g1⟩:=hT;let⟨T2,h2,v2,g2⟩:=zbd (f:="inner") (gs:=[("number",.int i),("many",.int m),("rounds",.int r),("inner",.ref a)]) g1 (hf.mv v1) (by simp) rfl;let⟨T3,h3,v3,g3⟩:=zbd (f:="last") (gs:=[("number",.int i),("many",.int m),("rounds",.int r),("inner",.ref a),("last",.int last)]) g2 ((hf.mv v1).mv v2) (by simp) rfl;let⟨T4,h4,v4,g4⟩:=zbd (f:="reached") g3 (((hf.mv v1).mv v2).mv v3) (by simp) rfl;exists h2;exists h3;change by rw[length_map];omega
 exists h4;exact⟨rfl,((v1.trans v2).trans v3).trans v4,g4⟩
abbrev wcB:CS:=.setIx J2 J3 (.mk 1 29 "Crasher" 0 #[.ix J0 J3,J4,J5]) .nil
def znv:c_with_crashers.body=.asg 2 (.mkL (.val J0)) (.forS [3,4,5] (.val J1) wcB (.ret J2 .nil)):=rfl
noncomputable abbrev Ew(d cl tl:Nat)(a b c:Option D):Ev:=[Φ (.ref d),Φ (.ref cl),Φ (.ref tl),a,b,c]
def znu{T:R.St}(gh:T.get hl=Φ (.lst hd))(gt:T.get tl=Φ (.lst td))(ft:Fr T tl)(ej:hd[j]?=Φ (.ref a))(jt:j<td.length)(ea:T.get a=Φ (hD (j:Int) m r wb hr en))(hrs:rs.length<=1000)(hk:∀l∈T.lk,l<T.len) :
  W (exS (callF prog (n+3)) wcB (Ew hl cl tl (Φ (.int (j:Nat))) (Φ (.int last)) (Φ (pD rs))) T) λf U=>f=.nx (Ew hl cl tl (Φ (.int (j:Nat))) (Φ (.int last)) (Φ (pD rs)))/\Mv [tl] T U/\U.get tl=Φ (.lst (td.set j (.ref T.len)))/\U.get T.len=Φ (cD (j:Int) m r a last rs):=by
 have mP:=Mv.push [] T (.ins 1 []);have fc:Fr (T.push (.ins 1 [])) T.len:=⟨by show T.frz.length<=T.len;unfold St.len;omega,zbX hk (le_refl _)⟩;apply wS_W _;exists gh;exists zdX ej;refine za2 ((zo1 (zap T (.ins 1 [])) fc (zad ea) hrs).mono λd U hU=>?_);let⟨rfl,v,gc⟩:=hU;change rfl;have ne:tl≠T.len:=by have:=zak gt;omega
 have gt2:U.get tl=Φ (.lst td):=v.old _ _ (by simpa using ne) (zad gt);have ft2:=(ft.mv mP).mv v;let⟨V,hV,mV,gV⟩:=zbF ft2 gt2;have ed:dPut U (.ref tl) (.int (j:Nat)) (.ref T.len)=Φ V:=by
  unfold dPut;dsimp only;rw[gt2];have ei:ixN td.length ((j:Nat):Int)=Φ j:=by unfold ixN;rw[if_pos (by omega),if_pos (by omega)];simp
  simp[zbz,Ϛ,ei];exact hV
 exists ed;refine⟨rfl,?_,gV,mV.old _ _ (by simpa using ne.symm) gc⟩;exact zjU ((v.up (by intro z hz;exact mem_cons.mpr (.inl (mem_singleton.mp hz)))).trans (mV.up (by intro z hz;exact Μ _ hz)))
@[reducible]def Cra:=Nat×Int×List Int
abbrev craD(x:Cra):D:=.tup [.int (x.1:Nat),.int x.2.1,pD x.2.2]
structure Wc(T:R.St)(m:Nat)(r:Int)(tl:Nat)(ps:List Pt):Prop where
 gt:T.get tl=Φ (.lst (ps.map λp=>.ref p.who))
 ft:Fr T tl
 hd:∀(i:Nat) p,ps[i]?=Φ p->∃wb hr en,T.get p.a=Φ (hD i m r wb hr en)/\wb=p.wb/\hr=p.hr
 cr:∀(i:Nat) p c last rs,ps[i]?=Φ p->p.cr=Φ (c,last,rs)->T.get c=Φ (cD i m r p.a last rs)
 hk:∀l∈T.lk,l<T.len
def ziP:∀(w:List Cra)(k:List Pt)(T:R.St)(a b c:Option D),Wc T m r tl k->T.get A=Φ (.lst hd)->A≠tl->(∀(i:Nat) p,k[i]?=Φ p->hd[i]?=Φ (.ref p.a))->(∀x∈w,x.1<k.length/\x.2.2.length<=1000)->N<=tl->N<=T.len->(w.map (·.1)).Nodup->
  W (zaM [3,4,5] (exS (callF prog (n+3)) wcB) (w.map craD) (Ew A cl tl a b c) T) λf U=>(∃a b c,f=.nx (Ew A cl tl a b c))/\Mv [tl] T U/\∃q,Wc U m r tl q/\q.length=k.length/\(∀(i:Nat) p,k[i]?=Φ p->∃s,q[i]?=Φ s/\s.a=p.a/\s.wb=p.wb/\s.hr=p.hr/\((∀x∈w,x.1≠i)->s=p)/\∀x∈w,x.1=i->∃c,s.cr=Φ (c,x.2.1,x.2.2))
 | [],k,T,a,b,c,X,_,_,_,_,_,_,_=>by show W (Out.ok (Fl.nx _) T) _;exact⟨⟨a,b,c,rfl⟩,Mv.refl _ _,k,X,rfl,λi p e=>⟨p,e,rfl,rfl,rfl,λ_=>rfl,λx g=>by simp at g⟩⟩| (j,d,C)::w,k,T,a,b,c,X,gh,nh,J,hc,hN,hT,L=>by
  rw[Υ,nodup_cons]at L;let⟨M,O⟩:=hc (j,d,C) (by simp);have E:=Η M;let⟨G,H,en,ea,_,_⟩:=X.hd j _ E;show W (Out.bind (exS (callF prog (n+3)) wcB (Ew A cl tl (Φ (.int (j:Nat))) (Φ (.int d)) (Φ (pD C))) T) _) _;rw[zab];refine(znu gh X.gt X.ft (J j _ E) (by simpa using M) ea O X.hk).mono λf U hU=>?_;let⟨rfl,v,g1,g2⟩:=hU;have t:∀l o,l≠tl->T.get l=Φ o->U.get l=Φ o:=λl o h e=>v.old _ _ (by simpa using h) e;have B:∀l o,(∀I,o≠.lst I)->T.get l=Φ o->l≠tl:=λl o h e z=>by rw[z,X.gt]at e;cases e;exact h _ rfl
  have Y:Wc U m r tl (k.set j {k[j]with cr:=Φ (T.len,d,C)}):=by refine⟨?_,X.ft.mv v,λi p e=>?_,λi p c' l' r' e ec=>?_,λl A=>?_⟩;rw[List.map_set];exact g1;rw[getElem?_set]at e;split at e;rename_i u;subst u;cases e;let⟨G,H,en,y,Q,e3⟩:=X.hd j _ E;exact⟨G,H,en,t _ _ (B _ _ (λI z=>by cases z) y) y,Q,e3⟩;let⟨G,H,en,y,Q,e3⟩:=X.hd i p e;exact⟨G,H,en,t _ _ (B _ _ (λI z=>by cases z) y) y,Q,e3⟩;rw[getElem?_set]at e;split at e;rename_i u;subst u;cases e;cases ec;exact g2;have y:=X.cr i p c' l' r' e ec;exact t _ _ (B _ _ (λI z=>by cases z) y) y;rw[v.lk]at A;have:=X.hk l A;have:=v.len;lia
  refine(ziP w _ U _ _ _ Y (t _ _ nh gh) nh (λi p e=>?_) (λx g=>?_) hN (le_trans hT v.len) L.2).mono λf V hV=>?_;rw[getElem?_set]at e;split at e;rename_i u;subst u;cases e;exact J j k[j] E;exact J i p e;rw[List.length_set];exact hc x (by simp[g]);let⟨k1,k2,q,k3,k4,k5⟩:=hV;refine⟨k1,v.trans k2,q,k3,by rw[k4,List.length_set],λi p e=>?_⟩;by_cases u:j=i;subst u;rw[E]at e;cases e;let⟨s,q1,q2,q3,q4,q5,q6⟩:=k5 j {k[j]with cr:=Φ (T.len,d,C)} (by rw[getElem?_set,if_pos rfl,if_pos M]);have nj:∀x∈w,x.1≠j:=λx g z=>L.1 (mem_map.mpr ⟨x,g,z⟩);refine⟨s,q1,q2,q3,q4,λz=>absurd rfl (z (j,d,C) (by simp)),λx g xj=>?_⟩;rcases mem_cons.mp g with rfl|g;exact⟨T.len,by rw[q5 nj]⟩;exact absurd xj (nj x g);let⟨s,q1,q2,q3,q4,q5,q6⟩:=k5 i p (by rw[getElem?_set,if_neg u];exact e);refine⟨s,q1,q2,q3,q4,λz=>q5 λx g=>z x (by simp[g]),λx g xi=>?_⟩;rcases mem_cons.mp g with rfl|g;exact absurd xi u;exact q6 x g xi
def zbZ{S T:R.St}(c:T.frz=S.frz++S.new):(R.St.mk S.frz (S.new++T.new) S.lk).get l=T.get l:=by unfold St.get;rw[c];rw[length_append];by_cases a:l<S.frz.length;rw[if_pos a,if_pos (by lia),getElem?_append_left a];rw[if_neg a];by_cases b:l<S.frz.length+S.new.length;rw[if_pos b,getElem?_append_left (by lia),getElem?_append_right (by lia)];rw[getElem?_append_right (by lia)];congr 1;lia
def get_frz{S T:R.St}(a:T.frz=S.frz++S.new)(h:l<S.len):T.get l=S.get l:=by rw[<-za6 S];unfold St.get;rw[a,if_pos (by rw[zcM];exact h),if_pos (by rw[zfY,zcM];exact h)];rfl
def zqV{m n s cl:Nat}{g:List Pt}{k:List Cra}(gh:S.get s=Φ (.lst (g.map λp=>.ref p.a)))(gc:S.get cl=Φ (.lst (k.map craD)))(h0:∀p∈g,p.cr=Ψ)(hd:∀(i:Nat) p,g[i]?=Φ p->∃en,S.get p.a=Φ (hD i m r p.wb p.hr en))(hc:∀x∈k,x.1<g.length/\x.2.2.length<=1000)(J:g.length<=1000)(nd:(k.map (·.1)).Nodup) :
  W (app (callF prog (n+4)) 15 [.ref s,.ref cl] S) λd U=>∃(tl:Nat) (h:List Pt),d=.ref tl/\U.frz=S.frz/\U.lk=S.lk/\S.len<=U.len/\(∀l o,S.get l=Φ o->U.get l=Φ o)/\S.len<=tl/\U.get tl=Φ (.lst (h.map λp=>.ref p.who))/\(∀(i:Nat) p c j C,h[i]?=Φ p->p.cr=Φ (c,j,C)->U.get c=Φ (cD i m r p.a j C))/\h.length=g.length/\(∀(i:Nat) p,g[i]?=Φ p->∃t,h[i]?=Φ t/\t.a=p.a/\t.wb=p.wb/\t.hr=p.hr/\((∀x∈k,x.1≠i)->t=p)/\∀x∈k,x.1=i->∃c,t.cr=Φ (c,x.2.1,x.2.2)):=by
 have lh:=zak gh;have lc:=zak gc;have y:(g.map λp=>D.ref p.a)=g.map λp=>D.ref p.who:=List.map_congr_left λp J=>by unfold Pt.who;rw[h0 p J]
 rw[zh6 rfl rfl,zab,W_ne];show W (Out.bind _ _) _;rw[zab];have L:∀l o,S.get l=Φ o->S.enter.get l=Φ o:=λl o e=>by rw[za6];exact e
 have e0:evE (callF prog (n+3)) (.mkL (.val J0)) (zar c_with_crashers [.ref s,.ref cl]) S.enter=.ok (.ref S.enter.len) (S.enter.push (.lst (g.map λp=>.ref p.a))):=by
  refine W.eq (wE_W _ ?_);left;exists L _ _ gh;left;change by rw[length_map];lia
  exact⟨rfl,rfl⟩
 rw[e0];have B:∀l o,S.get l=Φ o->(S.enter.push (.lst (g.map λp=>.ref p.a))).get l=Φ o:=λl o e=>zad (L l o e);have el:evL (callF prog (n+3)) (.val J1) (Ew s cl S.enter.len Ψ Ψ Ψ) (S.enter.push (.lst (g.map λp=>.ref p.a)))=.ok (k.map craD,[cl]) (S.enter.push (.lst (g.map λp=>.ref p.a))):=by refine W.eq (wL_W _ ?_);left;exists B _ _ gc;left;exact⟨rfl,rfl⟩
 refine zb0 el ?_;have X:Wc ({S.enter.push (.lst (g.map λp=>.ref p.a)) with lk:=[cl]++(S.enter.push (.lst (g.map λp=>.ref p.a))).lk}:R.St) m r S.enter.len g:=by
  refine⟨?_,⟨?_,?_⟩,λi p e=>?_,λi p c l C e q=>?_,λl s=>?_⟩;rw[<-y];exact zap _ _;show(S.frz++S.new).length<=_;exact le_refl _;show([cl]:List Nat).contains _=Δ;simp;lia;let⟨en,e1⟩:=hd i p e;exact⟨p.wb,p.hr,en,B _ _ e1,rfl,rfl⟩;rw[h0 p (mem_of_getElem? e)]at q;exact nS q;have:l=cl:=by simpa using(show l∈[cl] from s)
  show l<(S.enter.push _).len;rw[plen,R.enter_len];lia
 refine(ziP k g _ Ψ Ψ Ψ X (B _ _ gh) (by rw[R.enter_len];lia) (λi p e=>by rw[getElem?_map,e];rfl) hc (by rw[R.enter_len];exact le_refl _) (by show S.len<=(S.enter.push _).len;rw[plen,R.enter_len];lia) nd).mono λf U u=>?_;let⟨⟨a,b,c,rfl⟩,v,h,Y,M,N⟩:=u;have z:({U with lk:=(S.enter.push (.lst (g.map λp=>.ref p.a))).lk}:R.St).get S.enter.len=Φ (.lst (h.map λp=>.ref p.who)):=Y.gt;have u:=v.frz;have E:∀l o,S.get l=Φ o->U.get l=Φ o:=λl o e=>v.old _ _ (by have:=zak e;simp;lia) (B l o e);refine W.mono (wS_W (.ret J2 .nil) (Q:=λw T=>w=.rt (.ref S.enter.len)/\T={U with lk:=(S.enter.push (.lst (g.map λp=>.ref p.a))).lk}) ?_) λw T hr=>?_;left;exact⟨rfl,rfl⟩;let⟨rfl,rfl⟩:=hr;rw[zhO];unfold zbm;have G:R.flat S.len (.ref S.enter.len)=Δ:=by simp[R.flat]
 simp![G,z,Bool.false_eq_true,if_false];split;rename_i O;refine⟨S.len,h,rfl,rfl,rfl,by rw[plen];lia,λl o e=>zad e,le_refl _,zap _ _,λi p A H w e q=>?_,M,N⟩;have:=Y.cr i p A H w e q;rw[zbh]at O;have hm:=O (.ref p.who) (mem_map.mpr ⟨p,mem_of_getElem? e,rfl⟩);have hw:p.who=A:=by unfold Pt.who;rw[q]
 rw[hw]at hm;have I:A<S.len:=by simpa[R.flat]using hm
 refine zad ?_;rw[<-get_frz u I];exact this;refine⟨S.enter.len,h,rfl,rfl,rfl,by simp[St.len],λl o e=>?_,by rw[R.enter_len];exact le_refl _,?_,λi p A H w e q=>?_,M,N⟩;exact(zbZ u).trans (E l o e);exact(zbZ u).trans z;exact(zbZ u).trans (Y.cr i p A H w e q)
@[reducible]def Up(S T:R.St):Prop:=∀l o,S.get l=Φ o->T.get l=Φ o
def Up.push(S:R.St)(o:MO):Up S (S.push o):=λ_ _ e=>zad e
def Up.refl(S:R.St):Up S S:=λ_ _ e=>e
def Up.enter(S:R.St):Up S S.enter:=λl o e=>by rw[za6];exact e
def Up.trans{S T U:R.St}(a:Up S T)(b:Up T U):Up S U:=λl o e=>b l o (a l o e)
abbrev Ty(S:R.St):D->Prop
 |.ref l=>∃a,S.get l=Φ (.lst a)|.fix _=>False|_=>True
def Ty.mono{S T:R.St}{d:D}(h:Ty S d)(g:Up S T):Ty T d:=by cases d with|ref l=>let⟨a,e⟩:=h;exact⟨a,g _ _ e⟩|_=>exact h
abbrev kI:D->Bool|.int _=>Γ|.bl _=>Γ|_=>Δ
abbrev kB:D->Bool|.bl _=>Γ|_=>Δ
abbrev kZ:D->Bool|.int _=>Γ|_=>Δ
def ztP(d:D):(kI d&&!kB d)=kZ d:=by cases d<;>rfl
abbrev kT:D->String|.non=>"NoneType"|.bl _=>"bool"|.int _=>"int"|.str _=>"str"|.tup _=>"tuple"|_=>"list"
def Ty.ty{S:R.St}{d:D}(h:Ty S d):tyOf S d=Φ (kT d):=by cases d with|ref l=>let⟨a,e⟩:=h;simp![tyOf,e,kT]|fix _=>exact h.elim|_=>rfl
def zkg(d:D):(kT d=="int" || (kT d=="bool" && "int" == "int"))=kI d:=by cases d<;>rfl
def zgK(d:D):(kT d=="bool" || (kT d=="bool" && "bool" == "int"))=kB d:=by cases d<;>rfl
def zue{S:R.St}{d:D}(h:Ty S d):bi S (.isin "int") [d]=.ok (.bl (kI d)) S:=by unfold bi;simp![h.ty];rw[zkg]
def zsH{S:R.St}{d:D}(h:Ty S d):bi S (.isin "bool") [d]=.ok (.bl (kB d)) S:=by unfold bi;simp![h.ty];rw[zgK]
def zso{cf:CF}{S:R.St}{δ:Ev}{i:Nat}{d:D}(e:δ[i]?=Φ (Φ d))(h:Ty S d):evE cf (.bi (.isin "int") #[.loc i]) δ S=.ok (.bl (kI d)) S:=by show Out.bind (Out.bind (lift S (δ[i]?).join) _) _=_;rw[e];exact zue h
def zpo{cf:CF}{S:R.St}{δ:Ev}{i:Nat}{d:D}(e:δ[i]?=Φ (Φ d))(h:Ty S d):evE cf (.bi (.isin "bool") #[.loc i]) δ S=.ok (.bl (kB d)) S:=by show Out.bind (Out.bind (lift S (δ[i]?).join) _) _=_;rw[e];exact zsH h
def zsK{P:List Fn}{F:Fn}{f n:Nat}{ds:List D}{S:R.St}{Q:D->R.St->Prop}(h:P[f]?=Φ F)(a:ds.length=F.np)(w:W (exS (callF P n) F.body (zar F ds) S.enter) λr T=>wFin S r T Q)(b:F.prim=Ψ:=by rfl) :
  W (app (callF P (n+1)) f ds S) Q:=by
 rw[zh6 h a b,zab,W_ne];refine w.mono λr T q=>?_;unfold wFin at q;exact q
def zdo{n:Nat}{S:R.St}{d:D}(h:Ty S d):app (callF prog (n+1)) 0 [d] S=.ok (.bl (kZ d)) S:=by
 refine W.eq (zsK rfl rfl ?_);have a:=h.mono (.enter S);have b:evE (callF prog n) (.bi (.isin "int") #[J0]) (zar zbu [d]) S.enter=_:=zso rfl a;have c:evE (callF prog n) (.bi (.isin "bool") #[J0]) (zar zbu [d]) S.enter=_:=zpo rfl a;have e:evE (callF prog n) (.and (.bi (.isin "int") #[J0]) (.nt (.bi (.isin "bool") #[J0]))) (zar zbu [d]) S.enter=.ok (.bl (kZ d)) S.enter:=by show Out.bind _ _=_;rw[b,zaj,<-ztP];dsimp only;cases kI d with|true=>(conv=>lhs;whnf);rw[c];rfl|false=>rfl
 show W (Out.bind _ _) _;rw[e];exact zao rfl ⟨rfl,rfl⟩
def zme(d:D):(∃z,d=.int z)\/kZ d=Δ:=by cases d<;>first|exact .inl ⟨_,rfl⟩|exact .inr rfl
abbrev gh(m:Int):D->Bool|.int z=>decide (0<=z)&&decide (z<m)|_=>Δ
abbrev gt:D->Bool|.int z=>decide (1<=z)&&decide (z<=30)|_=>Δ
def ztY{m:Int}{d:D}(h:kZ d=Δ):gh m d=Δ:=by cases d<;>first|rfl|cases h
def ztX{d:D}(h:kZ d=Δ):gt d=Δ:=by cases d<;>first|rfl|cases h
def zhc{n:Nat}{S:R.St}{d:D}{m:Int}(h:Ty S d):app (callF prog (n+2)) 1 [d,.int m] S=.ok (.bl (gh m d)) S:=by refine zcc rfl rfl ?_;left;specialize zdo (h.mono (.enter S));left;rcases zme d with⟨z,rfl⟩|a;left;refine zc4 (λc=>?_) (λc=>?_);left;refine zao rfl ⟨?_,rfl⟩;simp[gh,c];left;refine zao rfl ⟨?_,rfl⟩;simp[gh,c];rw[ztY a];refine zfl a ?_;left;exact zao rfl ⟨rfl,rfl⟩
def zqW{n:Nat}{S:R.St}{d:D}(h:Ty S d):app (callF prog (n+2)) 6 [d] S=.ok (.bl (gt d)) S:=by refine zcc rfl rfl ?_;left;specialize zdo (h.mono (.enter S));left;rcases zme d with⟨z,rfl⟩|a;left;refine zc4 (λc=>?_) (λc=>?_);left;refine zao rfl ⟨?_,rfl⟩;simp[gt,c];left;refine zao rfl ⟨?_,rfl⟩;simp[gt,c];rw[ztX a];refine zfl a ?_;left;exact zao rfl ⟨rfl,rfl⟩
abbrev crB(m:Int):D->Bool
 |.tup [a,b,.tup c]=>gh m a&&gt b&&c.all (gh m)|_=>Δ
structure Tyy(S:R.St)(d:D):Prop where
 ty:Ty S d
 sub:∀ds,d=.tup ds->∀x∈ds,Ty S x
 sub2:∀ds,d=.tup ds->∀rs,D.tup rs∈ds->rs.length<=16777216/\∀y∈rs,Ty S y
def Tyy.mono{S T:R.St}{d:D}(h:Tyy S d)(g:Up S T):Tyy T d:=⟨h.ty.mono g,λa e x f=>(h.sub a e x f).mono g,λa e b c=>⟨(h.sub2 a e b c).1,λy i=>((h.sub2 a e b c).2 y i).mono g⟩⟩
def zsJ{a b c:D}:R.atI [a,b,c] 0=Φ a:=rfl
def zuf{a b c:D}:R.atI [a,b,c] 1=Φ b:=rfl
def zsI{a b c:D}:R.atI [a,b,c] 2=Φ c:=rfl
def zk8(p:D->Bool):∀a:List D,allD (a.map λx=>.bl (p x))=Φ (a.all p)
 | []=>rfl| r::a=>by
  have h:((a.map λx=>D.bl (p x)).mapM zdW).map (λb=>b.all id)=Φ (a.all p):=zk8 p a;unfold allD;rw[Υ,Ϝ];cases e:(a.map λx=>D.bl (p x)).mapM zdW with
  |none=>rw[e]at h;exact nS h
  |some b=>rw[e]at h;simp at h;simp[zdW,h]
def zof{n:Nat}{S:R.St}{d:D}{m:Int}(h:Tyy S d):app (callF prog (n+3)) 14 [d,.int m] S=.ok (.bl (crB m d)) S:=by
 refine zcc rfl rfl ?_;have e:=h.mono (.enter S);left;exists e.ty.ty;cases d with
 |tup j=>
  left
  match j,h with
  | [],_ | [_],_ | [_,_],_=>left;exact zao rfl ⟨rfl,rfl⟩| a::b::c::x::r,_=>
   have k:(!decide (((a::b::c::x::r).length:Int)=3))=Γ:=by rfl
   left;exact zao rfl ⟨by cases c<;>rfl,rfl⟩
  | [a,b,c],h=>have l:=e.sub _ rfl a (by simp);have o:=e.sub _ rfl b (by simp);have p:=e.sub _ rfl c (by simp);left;exists zsJ;left;specialize zhc l;left;cases g:gh m a with| false=>left;refine zao rfl ⟨?_,rfl⟩;cases c<;>simp[crB,g]| true=>left;exists zuf;left;specialize zqW o;left;cases i:gt b with| false=>left;refine zao rfl ⟨?_,rfl⟩;cases c<;>simp[crB,i]| true=>left;exists zsI;left;exists p.ty;cases c with| tup f=>left;exists zsI;left;refine zbj ?_;have q:=(e.sub2 _ rfl f (by simp)).2;refine W.of (zcC (λx=>.bl (gh m x)) f _ (λx _=>rfl) (λx s=>?_)) ?_;show Out.bind (Out.bind (lift _ (Φ x)) _) _=_;exact zhc (q x s);change ?_;rw[length_map];exact(e.sub2 _ rfl f (by simp)).1;left;exists zk8 (gh m) f;left;refine zao rfl ⟨?_,rfl⟩;simp[crB,g,i]| _=>left;exact zao rfl ⟨rfl,rfl⟩
 |fix _=>exact e.ty.elim| _=>left;exact zao rfl ⟨rfl,rfl⟩
abbrev hdI:D->Int|.tup (.int h::_)=>h|_=>0
def zkU{m:Int}{d:D}(h:crB m d=Γ):∃a b c,d=.tup [.int a,.int b,.tup c]/\0<=a/\a<m:=by
 unfold crB at h;split at h
 . rename_i a b c;replace h:=qL qa1 h;let⟨⟨e,f⟩,_⟩:=h;cases a<;>simp[gh]at e;cases b<;>simp[gt]at f;exact⟨_,_,c,rfl,e.1,e.2⟩
 exact nB h
abbrev scan(m:Int):List Int->Nat->List D->Option Nat
 |_,_,[]=>Ψ|a,k,d::b=>if crB m d=Γ/\hdI d∉a then scan m (a++[hdI d]) (k+1) b else Φ k
structure Lp(S T:R.St)(l:Nat)(acc:List D):Prop where
 up:Up S T
 fz:T.frz=S.frz++S.new
 lk:T.lk.contains l=Δ
 at_:T.get l=Φ (.lst acc)
 nw:S.len<=l
def Lp.old{S T:R.St}{l:Nat}{a:List D}(L:Lp S T l a):T.frz.length<=l:=by rw[L.fz,zcM];exact L.nw
abbrev zhW:CS:=.ifS (.or (.nt (.tst (.call 14 0 #[J4,J0]))) (.cmp .In (.ix J4 U0) (.mkL (.comp 1 [] [0] (.val J2) (.tst (.con (D.bl Γ))) (.ix J0 U0))))) (.rais 3 "NoLetter" "place" J3) .nil (.expr (.mt .append J2 #[J4]) .nil)
noncomputable abbrev Ec(m:Int)(s l:Nat)(a b:Option D):Ev:=[Φ (.int m),Φ (.ref s),Φ (.ref l),a,b]
def zku(m:Int){a:List D}(h:∀x∈a,crB m x=Γ):a.map (λx=>D.int (hdI x))=(a.map hdI).map D.int:=by rw[ϒ];rfl
@[irreducible]noncomputable def Pq(S T:R.St)(m:Int)(s l k:Nat)(d:D)(acc:List D)(f:Fl)(U:R.St):Prop:=if crB m d=Γ/\hdI d∉acc.map hdI then f=.nx (Ec m s l (Φ (.int k)) (Φ d))/\Lp S U l (acc++[d])/\U.lk=T.lk
 else ∃e,f=.ex (.ref e)/\U.get e=Φ (.exc 3 [(("place":PySem.Str),.int k)])/\Up S U/\U.frz=S.frz++S.new
def znC{n:Nat}{S T:R.St}{m:Int}{s l k:Nat}{d:D}{e:List D}(L:Lp S T l e)(hd:Tyy S d)(h:∀x∈e,crB m x=Γ)(A:e.length<16777216) :
  W (exS (callF prog (n+3)) zhW (Ec m s l (Φ (.int k)) (Φ d)) T) (Pq S T m s l k d e):=by
 refine wS_W _ ?_;left;specialize zof (hd.mono L.up);left;cases g:crB m d with
 |false=>left;unfold Pq;rw[if_neg (by rw[g];simp)];exact⟨_,rfl,zan _ _,L.up.trans (.push _ _),L.fz⟩| true=>
  let⟨a,b,i,rfl,_,_⟩:=zkU g;left;exists zsJ;left;exists L.at_;left;refine zbj ?_;refine W.of (zcC (λx=>.int (hdI x)) e _ (λx _=>rfl) (λx t=>?_)) ?_;let⟨a,b,i,rfl,_,_⟩:=zkU (h x t);rfl;change by rw[length_map];lia
  left;change by rw[length_map];lia
  left;have u:(R.St.push T (.lst (e.map λx=>D.int (hdI x)))).get T.len=Φ (.lst ((e.map hdI).map D.int)):=by rw[zan,zku m h]
  exists zsa u a;have f:Up S (R.St.push T (.lst (e.map λx=>D.int (hdI x)))):=L.up.trans (.push _ _);have B:T.len≠l:=by have:=zak L.at_;lia
  by_cases c:a∈e.map hdI;rw[decide_eq_true c];left;unfold Pq;rw[if_neg (λq=>q.2 c)];exact⟨_,rfl,zan _ _,f.trans (.push _ _),L.fz⟩;rw[decide_eq_false c];left;exists zad L.at_;left;exists zad L.at_;left;change by simp;lia
  let⟨U,v,w,p,C,y,z⟩:=zeQ (S:=R.St.push T (.lst (e.map λx=>D.int (hdI x)))) (.lst (e++[D.tup [.int a,.int b,.tup i]])) L.old L.lk;exists v;left;unfold Pq;rw[if_pos ⟨g,c⟩];refine⟨rfl,⟨λj o r=>?_,by rw[w];exact L.fz,by rw[p];exact L.lk,z (zak (zad L.at_)),L.nw⟩,p⟩;rw[y j (by have:=zak r;have:=L.nw;lia)];exact f j o r
abbrev en:Nat->List D->List D
 |_,[]=>[]|k,d::a=>zd7 (.int (k:Nat)) d::en (k+1) a
def znj:∀(ds:List D)(k:Nat),ds.mapIdx (λi d=>zd7 (.int ((i+k:Nat):Int)) d)=en k ds
 | [],_=>rfl| d::ds,k=>by rw[List.mapIdx_cons,en,<-znj ds (k+1),zero_add];congr 2;funext i d;rw[show i+1+k=i+(k+1) by lia]
def en_0(ds:List D):ds.mapIdx (λi d=>zd7 (.int (i:Int)) d)=en 0 ds:=znj ds 0
@[irreducible]noncomputable def Rs(S:R.St)(m:Int)(s l:Nat)(all:List D)(o:Option Nat)(f:Fl)(U:R.St):Prop:=match o with|none=>(∃a b,f=.nx (Ec m s l a b))/\Lp S U l all|some p=>∃e,f=.ex (.ref e)/\U.get e=Φ (.exc 3 [(("place":PySem.Str),.int p)])/\Up S U/\U.frz=S.frz++S.new
def zj3{n:Nat}{S:R.St}{m:Int}{s l:Nat}:∀(ds g:List D)(k:Nat)(T:R.St)(a b:Option D),Lp S T l g->(∀d∈ds,Tyy S d)->(∀x∈g,crB m x=Γ)->g.length+ds.length<=16777216->
  W (zaM [3,4] (exS (callF prog (n+3)) zhW) (en k ds) (Ec m s l a b) T) (Rs S m s l (g++ds) (scan m (g.map hdI) k ds))
 | [],g,k,T,a,b,L,_,_,_=>by show W (Out.ok (Fl.nx _) T) _;unfold Rs scan;exact⟨⟨a,b,rfl⟩,by rw[Ϟ];exact L⟩| d::ds,g,k,T,a,b,L,i,j,p=>by simp![ϊ]at p;show W (Out.bind (exS (callF prog (n+3)) zhW (Ec m s l (Φ (.int k)) (Φ d)) T) _) _;rw[zab];refine(znC L (i d (by simp)) j (by lia)).mono λf U q=>?_;unfold Pq at q;by_cases c:crB m d=Γ/\hdI d∉g.map hdI;rw[if_pos c]at q;let⟨rfl,r,_⟩:=q;have o:=zj3 (n:=n) (s:=s) ds (g++[d]) (k+1) U (Φ (.int k)) (Φ d) r (λx h=>i x (by simp[h])) (λx h=>by rcases mem_append.mp h with h|h;exact j x h;rw[mem_singleton.mp h];exact c.1) (by simp;lia);rw[scan,if_pos c];rw[append_assoc,map_append]at o;exact o;rw[if_neg c]at q;let⟨e,rfl,t,u,v⟩:=q;rw[scan,if_neg c];unfold Rs;exact⟨e,rfl,t,u,v⟩
def zpx:c_crashes_of.body=.asg 2 (.lst .nil) (.forS [3,4] (.enum J1) zhW (.ret J2 .nil)):=rfl
@[irreducible]noncomputable def Rf(S:R.St)(ds:List D)(o:Option Nat)(f:Fl)(U:R.St):Prop:=match o with|none=>∃l,f=.rt (.ref l)/\U.get l=Φ (.lst ds)/\S.len<=l|some p=>∃e,f=.ex (.ref e)/\U.get e=Φ (.exc 3 [(("place":PySem.Str),.int p)])/\Up S U/\U.frz=S.frz++S.new
def zsx{n:Nat}{S:R.St}{m:Int}{s:Nat}{ds:List D}(c:S.get s=Φ (.lst ds))(h:∀d∈ds,Tyy S d)(i:ds.length<=16777216) :
  W (exS (callF prog (n+3)) c_crashes_of.body (zar c_crashes_of [.int m,.ref s]) S.enter) (Rf S ds (scan m [] 0 ds)):=by
 refine wS_W _ ?_;left;change by decide
 left;have v:=zak c;have g:Up S (S.enter.push (.lst [])):=(Up.enter S).trans (.push _ _);have en:zb9 (S.enter.push (.lst [])) (.ref s)=Φ (en 0 ds,[s]):=by unfold zb9;dsimp only;rw[g _ _ c,<-en_0]
 exists en;left;refine zbj ?_;have j:Lp S {S.enter.push (.lst []) with lk:=[s]++(S.enter.push (.lst [])).lk} S.enter.len []:=by refine⟨λl o e=>g l o e,?_,?_,?_,by rw[R.enter_len];exact le_refl _⟩;rfl;show([s]:List Nat).contains _=Δ;simp;lia;exact zan S.enter _
 refine(zj3 ds [] 0 _ Ψ Ψ j h (λx k=>by cases k) (by simpa using i)).mono λf U q=>?_;unfold Rs at q;rw[map_nil]at q;cases e:scan m [] 0 ds with| none=>rw[e]at q;let⟨⟨a,b,rfl⟩,L⟩:=q;left;unfold Rf;exact⟨_,rfl,L.at_,L.nw⟩| some p=>rw[e]at q;let⟨x,rfl,r,t,u⟩:=q;left;unfold Rf;exact⟨x,rfl,r,t,u⟩
def zjo{n:Nat}{S:R.St}{m:Int}{s:Nat}{ds:List D}(a:S.get s=Φ (.lst ds))(b:∀d∈ds,Tyy S d)(c:ds.length<=16777216)(hf:flats S.len ds=Γ)(e:scan m [] 0 ds=Ψ) :
  app (callF prog (n+4)) 13 [.int m,.ref s] S=.ok (.ref S.len) (S.push (.lst ds)):=by
 refine W.eq (zsK rfl rfl ?_);refine(zsx a b c).mono λf U q=>?_;unfold Rf at q;rw[e]at q;let⟨l,rfl,g,h⟩:=q;exact zdk h g hf ⟨rfl,rfl⟩
structure Th(S:R.St)(d:D):Prop where
 ty:Ty S d
 fl:∀{T:R.St},Up S T->flat T.len d=Γ
 pd:∃a,R.pd S 60 d=Φ a
def Th.same{S:R.St}{d:D}(h:Th S d):eqD S d d=Φ Γ:=by let⟨a,b⟩:=h.pd;simp![eqD,b,Ϛ,Option.map_some,zgC b]
abbrev gw:D->Bool|.int z=>decide ((if z<0 then -z else z)<10^60)|_=>Δ
abbrev gc(lo a:Int):D->Bool|.int z=>decide (lo<=z)&&decide (z<=a)|_=>Δ
def ztW{d:D}(h:kZ d=Δ):gw d=Δ:=by cases d<;>first|rfl|cases h
def Ty.enter{S:R.St}{d:D}(h:Ty S d):Ty S.enter d:=h.mono (.enter S)
def zmW{n:Nat}{S:R.St}{d:D}(h:Ty S d):app (callF prog (n+2)) 2 [d] S=.ok (.bl (gw d)) S:=by
 refine zcc rfl rfl ?_;left;specialize zdo h.enter;left;rcases zme d with⟨z,rfl⟩|a;left;change by decide
 left;exact zao rfl ⟨rfl,rfl⟩;rw[ztW a];refine zfl a ?_;left;exact zao rfl ⟨rfl,rfl⟩
def zg1{P:List Fn}{F:Fn}{f n:Nat}{ds:List D}{S T:R.St}{d:D}(h:P[f]?=Φ F)(a:ds.length=F.np)(w:wS (callF P n) F.body (zar F ds) S.enter λr b=>r=.rt d/\b=T)(hd:flat S.len d=Γ)(c:F.prim=Ψ:=by rfl):appX (callF P (n+1)) f ds S=.ok d S:=by have e:=(wS_W _ w).eq;unfold appX;simp![callF,h,a,c,e];exact zbY S d T hd
def zg2{P:List Fn}{F:Fn}{f n:Nat}{ds:List D}{S:R.St}{o:MO}(h:P[f]?=Φ F)(a:ds.length=F.np)(w:wS (callF P n) F.body (zar F ds) S.enter λr b=>r=.ex (.ref S.enter.len)/\b=S.enter.push o)(c:F.prim=Ψ:=by rfl):appX (callF P (n+1)) f ds S=.err (.ref S.len) (S.push o):=by have e:=(wS_W _ w).eq;unfold appX;simp![callF,h,a,c,e,R.enter_len];rfl
def ztZ{lo a:Int}{d:D}(c:gc lo a d=Γ):∃z,d=.int z/\lo<=z/\z<=a:=by cases d with|int z=>exact⟨z,rfl,by simpa[gc]using c⟩|_=>exact nB c
def zcd{n:Nat}{S:R.St}{d:D}{lo b:Int}(h:Ty S d):appX (callF prog (n+2)) 3 [d,.int lo,.int b] S=if gc lo b d then .ok d S else .err (.ref S.len) (S.push (.exc 0 [("told",d)])):=by by_cases c:gc lo b d=Γ;let⟨z,rfl,a,e⟩:=ztZ c;rw[if_pos c];refine zg1 (T:=S.enter) rfl rfl ?_ rfl;left;specialize zdo h.enter;left;refine zgl (decide_eq_true a) ?_;left;refine zfl (by rw[decide_eq_true e];rfl) ?_;left;exact⟨rfl,rfl⟩;rw[if_neg c];refine zg2 rfl rfl ?_;left;specialize zdo h.enter;left;rcases zme d with⟨z,rfl⟩|f;left;by_cases a:lo<=z;refine zgl (decide_eq_true a) ?_;left;refine zgl (by rw[decide_eq_false (λe=>c (by simp[gc,a,e]))];rfl) ?_;left;exact⟨rfl,rfl⟩;refine zfl (decide_eq_false a) ?_;left;exact⟨rfl,rfl⟩;rw[f];left;exact⟨rfl,rfl⟩
def zpS{n:Nat}{S:R.St}{d:D}{m:Int}(h:Th S d):appX (callF prog (n+3)) 4 [d,.int m] S=if gh m d then .ok d S else .err (.ref S.len) (S.push (.exc 1 [("hand",d)])):=by by_cases c:gh m d=Γ;rw[if_pos c];refine zg1 (T:=S.enter) rfl rfl ?_ (h.fl (Up.refl S));left;specialize zhc h.ty.enter;left;refine zfl (by rw[c];rfl) ?_;left;exact⟨rfl,rfl⟩;rw[if_neg c];refine zg2 rfl rfl ?_;left;specialize zhc h.ty.enter;left;refine zgl (by rw[Bool.eq_false_iff.mpr c];rfl) ?_;left;exact⟨rfl,rfl⟩
def zsf{d:D}(c:gw d=Γ):∃z,d=.int z:=by cases d<;>first|exact⟨_,rfl⟩|exact nB c
def zpO{n:Nat}{S:R.St}{d:D}(h:Ty S d):appX (callF prog (n+3)) 5 [d] S=if gw d then .ok d S else .err (.ref S.len) (S.push (.exc 2 [("word",d)])):=by by_cases c:gw d=Γ;rw[if_pos c];let⟨z,rfl⟩:=zsf c;refine zg1 (T:=S.enter) rfl rfl ?_ rfl;left;specialize zmW h.enter;left;refine zfl (by rw[c];rfl) ?_;left;exact⟨rfl,rfl⟩;rw[if_neg c];refine zg2 rfl rfl ?_;left;specialize zmW h.enter;left;refine zgl (by rw[Bool.eq_false_iff.mpr c];rfl) ?_;left;exact⟨rfl,rfl⟩
def zjq{cf:CF}{x:XE}{r:CS}{δ:Ev}{S T:R.St}{v:D}(h:exX cf x δ S=.ok v T):exS cf (.retX x r) δ S=.ok (.rt v) T:=by (conv=>lhs;whnf);rw[h]
def zq4{cf:CF}{x:XE}{r:CS}{δ:Ev}{S T:R.St}{v:D}(h:exX cf x δ S=.err v T):exS cf (.retX x r) δ S=.ok (.ex v) T:=by (conv=>lhs;whnf);rw[h]
def zug{P:List Fn}{F:Fn}{f n:Nat}{ds:List D}{S T:R.St}{d:D}(h:P[f]?=Φ F)(a:ds.length=F.np)(w:exS (callF P n) F.body (zar F ds) S.enter=.ok (.rt d) T)(hd:flat S.len d=Γ)(b:F.prim=Ψ:=by rfl):appX (callF P (n+1)) f ds S=.ok d S:=by unfold appX;simp![callF,h,a,b,w];exact zbY S d T hd
def zk6{P:List Fn}{F:Fn}{f n:Nat}{ds:List D}{S:R.St}{o:MO}(h:P[f]?=Φ F)(a:ds.length=F.np)(w:exS (callF P n) F.body (zar F ds) S.enter=.ok (.ex (.ref S.enter.len)) (S.enter.push o))(b:F.prim=Ψ:=by rfl):appX (callF P (n+1)) f ds S=.err (.ref S.len) (S.push o):=by unfold appX;simp![callF,h,a,b,w,R.enter_len];rfl
def zh3{cf:CF}{b:TrB}{r:CS}{δ δ':Ev}{S S':R.St}{Q:Fl->R.St->Prop}(h:exT cf b δ S=.ok δ' S')(w:W (exS cf r δ' S') Q):W (exS cf (.blk b r) δ S) Q:=by (conv=>lhs;whnf);rw[h];exact w
abbrev gr:D->Bool|.non=>Γ|t=>gc 1 8 t
abbrev rnB(b:Int):D->Int|.int z=>z|_=>b+1
abbrev rnE:CEs:=.cons J0 #[U1,U8]
abbrev rnX:XE:=.ite (.cmp .Is J0 (.con D.non)) (.val (.bin .Add J1 U1)) (.call 3 rnE)
def x_rn{n:Nat}{S:R.St}{t:D}{b:Int}(h:Ty S t):exX (callF prog (n+2)) rnX [Φ t,Φ (.int b)] S=if gr t then .ok (.int (rnB b t)) S else .err (.ref S.len) (S.push (.exc 0 [("told",t)])):=by
 by_cases a:t=.non;subst a;rfl;have e:gr t=gc 1 8 t:=by cases t<;>first|rfl|exact absurd rfl a
 have c:evT (callF prog (n+2)) (.cmp .Is J0 (.con D.non)) [Φ t,Φ (.int b)] S=.ok Δ S:=by cases t<;>first|rfl|exact absurd rfl a
 (conv=>lhs;whnf);rw[c];show exX (callF prog (n+2)) (.call 3 rnE) [Φ t,Φ (.int b)] S=_;show Out.bind _ _=_;show appX (callF prog (n+2)) 3 [t,.int 1,.int 8] S=_;rw[zcd h,e];cases g:gc 1 8 t with|false=>rfl|true=>cases t<;>first|rfl|exact nB g
def zla{n:Nat}{S:R.St}{t:D}{b:Int}(h:Ty S t):appX (callF prog (n+3)) 7 [t,.int b] S=if gr t then .ok (.int (rnB b t)) S else .err (.ref S.len) (S.push (.exc 0 [("told",t)])):=by have x:=x_rn (n:=n) (b:=b) h.enter;cases g:gr t with| true=>rw[g]at x;exact zug rfl rfl (zjq x) rfl| false=>rw[g]at x;exact zk6 rfl rfl (zq4 x)
abbrev badW(ds:List D):Option D:=ds.find? λd=>!gw d
def zg3{n:Nat}:∀(ds:List D)(S:R.St)(o:Option D),(∀d∈ds,Ty S d)->zbp (callF prog (n+3)) [0] 5 #[J0] ds [o] S=match badW ds with|none=>.ok ds S|some d=>.err (.ref S.len) (S.push (.exc 2 [("word",d)]))
 | [],S,o,h=>rfl| d::ds,S,o,h=>by have e:=zpO (n:=n) (h d (Ν ..));have b:=zg3 (n:=n) ds S (Φ d) λx c=>h x (Μ _ c);unfold badW at b⊢;rw[List.find?_cons];show(match appX (callF prog (n+3)) 5 [d] S with|.ok d a=>(zbp (callF prog (n+3)) [0] 5 #[J0] ds [Φ _] a).bind λr f=>.ok (d::r) f|.err d a=>.err d a|.bad=>.bad)=_;rw[e];cases g:gw d with| true=>simp![if_true];rw[b];cases List.find? (λd=>!gw d) ds<;>rfl|false=>rfl
abbrev hmE:CE:=.mk 0 23 "FloodHand" 0 #[J0,J2,J3,J1]
def zsc(hk:∀l∈T.lk,l<T.len):W (evE (callF prog (n+2)) hmE [Φ (.int i),Φ (.int w),Φ (.int m),Φ (.int r)] T) λd U=>d=.ref T.len/\Mv [] T U/\∃a b,T.len<a/\T.len<b/\U.get T.len=Φ (hD i m r a b Ψ)/\U.get a=Φ (.dic (kvD [w]))/\U.get b=Φ (.lst []):=by have c:Fr (T.push (.ins 0 [])) T.len:=⟨by show T.frz.length<=T.len;unfold St.len;lia,zbX hk (le_refl _)⟩;apply wE_W _;refine za2 ((zrQ (zap T (.ins 0 [])) c).mono λd U e=>?_);let⟨rfl,v,a,b,f,g,h,j,k⟩:=e;change rfl;rw[plen]at f g;exact⟨rfl,zjU v,a,b,by lia,by lia,h,j,k⟩
structure Hm(U:R.St)(m r:Int)(N k:Nat)(ps:List Pt)(ws:List Int):Prop where
 l:ps.length=ws.length
 ad:∀p∈ps,p.cr=Ψ/\∀z∈adr p,N<=z/\z<U.len
 dj:ps.Pairwise (λp q=>∀z∈adr p,z∉adr q)
 g:∀(i:Nat) p w,ps[i]?=Φ p->ws[i]?=Φ w->U.get p.a=Φ (hD ((k+i:Nat):Int) m r p.wb p.hr Ψ)/\U.get p.wb=Φ (.dic (kvD [w]))/\U.get p.hr=Φ (.lst [])
def zks:∀(ws:List Int)(k:Nat)(T:R.St)(b c:Option D),(∀l∈T.lk,l<T.len)->
  W (za3 [0,1] (evT (callF prog (n+2)) (CE.con (D.bl Γ)).tst) (evE (callF prog (n+2)) hmE) (en k (ws.map .int)) [b,c,Φ (.int m),Φ (.int r)] T) λds U=>∃e:List Pt,ds=(e.map λp=>.ref p.a)/\Mv [] T U/\Hm U m r T.len k e ws
 | [],k,T,b,c,_=>by show W (Out.ok [] T) _;exact⟨[],rfl,Mv.refl _ _,rfl,by simp,.nil,by simp⟩| w::ws,k,T,b,c,g=>by
  rw[Υ,en,za3];rw[show asgG [0,1] (zd7 (.int ((k:Nat):Int)) (.int w)) [b,c,Φ (.int m),Φ (.int r)]=Φ [Φ (.int ((k:Nat):Int)),Φ (.int w),Φ (.int m),Φ (.int r)] from rfl];dsimp only;rw[show evT (callF prog (n+2)) (CE.con (D.bl Γ)).tst [Φ (.int ((k:Nat):Int)),Φ (.int w),Φ (.int m),Φ (.int r)] T=.ok Γ T from rfl,zaj,if_pos rfl,zab];refine(zsc g).mono λd U t=>?_;let⟨rfl,v,y,A,M,N,B,h,j⟩:=t;rw[zab];have O:=zak h;have Q:=zak j;refine(zks ws (k+1) U (Φ (.int (k:Nat))) (Φ (.int w)) (by rw[v.lk];exact λl C=>lt_of_lt_of_le (g l C) v.len)).mono λds V E=>?_;let⟨e,rfl,u,H⟩:=E;have Y:=u.len;refine⟨⟨T.len,y,A,Ψ⟩::e,rfl,v.trans u,by rw[ϊ,ϊ,H.l],λp f=>?_,?_,λi p x o s=>?_⟩;rcases mem_cons.mp f with rfl|f
  . refine⟨rfl,λz a=>?_⟩;simp[adr]at a;rcases a with rfl|rfl|rfl<;>lia
  let⟨G,I⟩:=H.ad p f;exact⟨G,λz a=>by have:=I z a;lia⟩
  . rw[pairwise_cons];refine⟨λq J z a L=>?_,H.dj⟩;have:=((H.ad q J).2 z L).1;simp[adr]at a;rcases a with rfl|rfl|rfl<;>lia
  cases i with| zero=>cases o;cases s;exact⟨u.old _ _ (by simp) B,u.old _ _ (by simp) h,u.old _ _ (by simp) j⟩| succ i=>have:=H.g i p x (by simpa using o) (by simpa using s);rw[show k+1+i=k+(i+1) by lia]at this;exact this
def P1.one{j a:Nat}(x:P1 S m r j p h)(v:Mv [a] S T)(n:a∉adr p)(e:S.get a=Φ o)(g:∀i m r b l f,o≠cD i m r b l f):P1 T m r j p h:=by refine x.mv v ?_ ?_ ?_ ?_;simp;exact λz=>n (by rw[<-z];simp[adr]);simp;exact λz=>n (by rw[<-z];simp[adr]);simp;exact λz=>n (by rw[<-z];simp[adr]);intro c d f k;simp;intro z;have:=x.c c d f k;rw[z,e]at this;cases this;exact g _ _ _ _ _ _ rfl
abbrev plD(a b:Nat):MO:=.ins 2 [("hands",.ref a),("sent",.ref b)]
def zoW{r z:Int}(X:T0 S m r t g hs)(e:S.get a=Φ (.ins 2 []))(hf:Fr S a)(na:∀p∈g,a∉adr p)(m7:m<=7)(hw:ws.length<=7)(G:∀h∈hs,Gh ws 0 h)(H:c<=8)(hz:z=(c:Nat)) :
  W (appW (callF prog (n+7)) 38 [.ref a,.ref s,.ref t,.int z] S) λd U=>d=.non/\U.lk=S.lk/\U.frz=S.frz/\(∃w,U.get a=Φ (plD s w)/\U.get w=Φ (.lst (lets m r g 1 c hs)))/\(rnds m r g 1 c hs).length=m/\(∀(i:Nat) p h,g[i]?=Φ p->(rnds m r g 1 c hs)[i]?=Φ h->P1 U m r i p h)/\∀l o,l≠a->(∀p∈g,l∉adr p)->S.get l=Φ o->U.get l=Φ o:=by
 refine zbG rfl rfl (wS_W _ ?_);let⟨I,J,b,x⟩:=zbd (gs:=[("hands",.ref s)]) e hf (by simp) rfl;have u:t≠a:=λq=>by have:=X.hg;rw[q,e]at this;cases this
 have L:T0 I m r t g hs:=⟨X.lp,X.lh,b.old _ _ (by simpa using u) X.hg,λi p h j v=>let ⟨q,f⟩:=X.p1 i p h j v;⟨q.one b (na p (mem_of_getElem? j)) e (λ_ _ _ _ _ _ q=>by cases q),f.mv b⟩,X.dj,X.nt,by rw[b.lk];exact λl s=>lt_of_lt_of_le (X.hk l s) b.len⟩;exists J;refine za2 ((zto L m7 hw G H hz).mono λd U M=>?_);let⟨rfl,Y,y,A,B⟩:=M;have C:=B _ _ na x;have N:Fr U a:=⟨by rw[A,b.frz];exact hf.f,by rw[y,b.lk];exact hf.k⟩;let⟨V,O,k,Q⟩:=zbd C N (by simp) rfl;exists O;refine⟨rfl,by rw[k.lk,y,b.lk],by rw[k.frz,A,b.frz],⟨_,Q,k.old _ _ (by have:=zak x;simp;lia) Y.gl⟩,Y.lh,λi p h j v=>?_,λl o E T e0=>?_⟩;exact(Y.p1 i p h j v).1.one k (na p (mem_of_getElem? j)) C (λ_ _ _ _ _ _ q=>by cases q);exact k.old _ _ (by simpa using E) (B _ _ T (b.old _ _ (by simpa using E) e0))
structure VC(m:Int)(x:Cra):Prop where
 h:(x.1:Int)<m
 t1:1<=x.2.1
 t2:x.2.1<=30
 r:∀i∈x.2.2,0<=i/\i<m
 l:x.2.2.length<=7
def zno{cf:CF}{f:Nat}{ds:List D}{S T:R.St}{d:D}(h:app cf f ds S=.ok d T):appX cf f ds S=.ok d T:=by
 unfold app at h;unfold appX;cases e:cf f ds S.enter with
 |ok a b=>rw[e]at h;exact h|err a b=>rw[e]at h;cases h
 |bad=>rw[e]at h;cases h
abbrev fA:TrB:=.run 3 #[J1,U1,U7]
abbrev fB:TrB:=.run 3 #[J2,U0,U5]
abbrev fN:CE:=.cmp .NotEq (.bi .len #[J3]) J1
abbrev fE:CS:=.rais 0 "NoCount" "told" (.bi .len #[J3])
abbrev fW:TrB:=.comp 6 1 [] [0] (.val J3) 5 #[J0]
abbrev fC:TrB:=.asgX 7 (.ite (.cmp .Is J4 (.con D.non)) (.val (.lst .nil)) (.call 13 #[J1,J4]))
abbrev fR:TrB:=.asg 8 7 #[J5,J2]
abbrev fP:CS:=.expr (.callC 38 "Play" "__init__" #[J0,J9,.call 15 0 #[J9,J7],J8]) .nil
abbrev fH:CS:=.asg 9 (.mkL (.comp 2 [1,8] [0,1] (.enum J6) (.tst (.con (D.bl Γ))) (.mk 0 23 "FloodHand" 0 #[J0,J2,J3,J1]))) fP
def zsm:c_Floods_init.body=.blk fA (.blk fB (.ifS fN fE .nil (.blk fW (.blk fC (.blk fR fH))))):=rfl
noncomputable abbrev Ef(a:Nat)(b c:D)(d:Nat)(cr rd:D)(x y u v:Option D):Ev:=[Φ (.ref a),Φ b,Φ c,Φ (.ref d),Φ cr,Φ rd,x,y,u,v]
section
variable{S:R.St}{n a wl:Nat}{d0 d1 cr rd:D}{x y u v:Option D}{m b:Int}
def x_fA(h:Ty S d0):exT (callF prog (n+2)) fA (Ef a d0 d1 wl cr rd x y u v) S=if gc 1 7 d0 then .ok (Ef a d0 d1 wl cr rd x y u v) S else .err (.ref S.len) (S.push (.exc 0 [("told",d0)])):=by unfold fA;rw[exT,show evEs (callF prog (n+2)) #[J1,U1,U7] (Ef a d0 d1 wl cr rd x y u v) S=.ok [d0,.int 1,.int 7] S from rfl];dsimp only;rw[zcd h];split<;>rfl
def x_fB(h:Ty S d1):exT (callF prog (n+2)) fB (Ef a d0 d1 wl cr rd x y u v) S=if gc 0 5 d1 then .ok (Ef a d0 d1 wl cr rd x y u v) S else .err (.ref S.len) (S.push (.exc 0 [("told",d1)])):=by unfold fB;rw[exT,show evEs (callF prog (n+2)) #[J2,U0,U5] (Ef a d0 d1 wl cr rd x y u v) S=.ok [d1,.int 0,.int 5] S from rfl];dsimp only;rw[zcd h];split<;>rfl
def x_fW{ds:List D}(gw:S.get wl=Φ (.lst ds))(hd:∀d∈ds,Ty S d)(g:ds.length<=1000):exT (callF prog (n+3)) fW (Ef a d0 d1 wl cr rd x y u v) S=match badW ds with|none=>.ok (Ef a d0 d1 wl cr rd (Φ (.ref S.len)) y u v) (S.push (.lst ds))|some d=>.err (.ref S.len) (S.push (.exc 2 [("word",d)])):=by
 have c:evL (callF prog (n+3)) (.val J3) (Ef a d0 d1 wl cr rd x y u v) S=.ok (ds,[wl]) S:=by refine W.eq (wL_W _ ?_);left;exists gw;left;exact⟨rfl,rfl⟩
 have f:∀d∈ds,Ty ({S with lk:=[wl]++S.lk}:R.St) d:=λd h=>(hd d h).mono λl o e=>e;(conv=>lhs;whnf);rw[c];dsimp only;rw[if_pos (by lia),show csl 1 [] (Ef a d0 d1 wl cr rd x y u v)=[Ψ] from rfl,zg3 ds _ Ψ f];cases badW ds<;>rfl
def zs3:exT (callF prog (n+4)) fC (Ef a d0 d1 wl .non rd x y u v) S=.ok (Ef a d0 d1 wl .non rd x (Φ (.ref S.len)) u v) (S.push (.lst [])):=rfl
def zs2{cl:Nat}{ds:List D}(c:S.get cl=Φ (.lst ds))(f:∀d∈ds,Tyy S d)(h:ds.length<=1000)(hf:flats S.len ds=Γ)(g:scan m [] 0 ds=Ψ) :
  exT (callF prog (n+4)) fC (Ef a (.int m) d1 wl (.ref cl) rd x y u v) S=.ok (Ef a (.int m) d1 wl (.ref cl) rd x (Φ (.ref S.len)) u v) (S.push (.lst ds)):=by
 have e:=zno (zjo (n:=n) c f (by lia) hf g);show Out.bind (exX (callF prog (n+4)) (.call 13 #[J1,J4]) (Ef a (.int m) d1 wl (.ref cl) rd x y u v) S) _=_;show Out.bind (appX (callF prog (n+4)) 13 [.int m,.ref cl] S) _=_;rw[e];rfl
def x_fR(h:Ty S rd):exT (callF prog (n+3)) fR (Ef a d0 (.int b) wl cr rd x y u v) S=if gr rd then .ok (Ef a d0 (.int b) wl cr rd x y (Φ (.int (rnB b rd))) v) S else .err (.ref S.len) (S.push (.exc 0 [("told",rd)])):=by unfold fR;rw[exT,show evEs (callF prog (n+3)) #[J5,J2] (Ef a d0 (.int b) wl cr rd x y u v) S=.ok [rd,.int b] S from rfl];dsimp only;rw[zla h];split<;>rfl
end
def ziI{cf:CF}{b:TrB}{r:CS}{δ δ':Ev}{S S':R.St}(h:exT cf b δ S=.ok δ' S'):exS cf (.blk b r) δ S=exS cf r δ' S':=by (conv=>lhs;whnf);rw[h]
structure Fa(S:R.St)(wl:Nat)(d0 d1:D)(ds:List D)(rd:D):Prop where
 t0:Ty S d0
 t1:Ty S d1
 gw:S.get wl=Φ (.lst ds)
 td:∀d∈ds,Ty S d
 l:ds.length<=1000
 t2:Ty S rd
section
variable{S:R.St}{n a wl:Nat}{d0 d1 cr rd:D}{m b:Int}{ds:List D}
def zt7{cf:CF}{x y u v:Option D}(gw:S.get wl=Φ (.lst ds)):evT cf fN (Ef a (.int m) d1 wl cr rd x y u v) S=.ok (!decide ((ds.length:Int)=m)) S:=by refine W.eq (wT_W _ ?_);left;exists gw;left;refine⟨?_,rfl⟩;simp
def f_1(A:Fa S wl d0 d1 ds rd)(g:gc 1 7 d0=Γ):exS (callF prog (n+7)) c_Floods_init.body (zar c_Floods_init [.ref a,d0,d1,.ref wl,cr,rd]) S=exS (callF prog (n+7)) (.blk fB (.ifS fN fE .nil (.blk fW (.blk fC (.blk fR fH))))) (Ef a d0 d1 wl cr rd Ψ Ψ Ψ Ψ) S:=by rw[zsm,ziI];show exT (callF prog (n+7)) fA (Ef a d0 d1 wl cr rd Ψ Ψ Ψ Ψ) S=_;rw[x_fA A.t0,g];rfl
def f_2(A:Fa S wl (.int m) (.int b) ds rd)(g:gc 1 7 (.int m)=Γ)(c:gc 0 5 (.int b)=Γ):exS (callF prog (n+7)) c_Floods_init.body (zar c_Floods_init [.ref a,.int m,.int b,.ref wl,cr,rd]) S=exS (callF prog (n+7)) (.ifS fN fE .nil (.blk fW (.blk fC (.blk fR fH)))) (Ef a (.int m) (.int b) wl cr rd Ψ Ψ Ψ Ψ) S:=by rw[f_1 A g,ziI];rw[x_fB A.t1,c];rfl
def f_3(A:Fa S wl (.int m) (.int b) ds rd)(g:gc 1 7 (.int m)=Γ)(c:gc 0 5 (.int b)=Γ)(h:(ds.length:Int)=m):exS (callF prog (n+7)) c_Floods_init.body (zar c_Floods_init [.ref a,.int m,.int b,.ref wl,cr,rd]) S=exS (callF prog (n+7)) (.blk fW (.blk fC (.blk fR fH))) (Ef a (.int m) (.int b) wl cr rd Ψ Ψ Ψ Ψ) S:=by rw[f_2 A g c];show Out.bind _ _=_;rw[zt7 A.gw,decide_eq_true h];rfl
def f_4(A:Fa S wl (.int m) (.int b) ds rd)(g:gc 1 7 (.int m)=Γ)(c:gc 0 5 (.int b)=Γ)(h:(ds.length:Int)=m)(d:badW ds=Ψ):exS (callF prog (n+7)) c_Floods_init.body (zar c_Floods_init [.ref a,.int m,.int b,.ref wl,cr,rd]) S=exS (callF prog (n+7)) (.blk fC (.blk fR fH)) (Ef a (.int m) (.int b) wl cr rd (Φ (.ref S.len)) Ψ Ψ Ψ) (S.push (.lst ds)):=by rw[f_3 A g c h,ziI];rw[x_fW A.gw A.td A.l,d]
structure Cr(S:R.St)(m:Int)(cr:D)(cs:List D):Prop where
 at_:(cr=.non/\cs=[])\/∃cl,cr=.ref cl/\S.get cl=Φ (.lst cs)
 ty:∀d∈cs,Tyy S d
 l:cs.length<=1000
 fl:flats S.len cs=Γ
 ok:scan m [] 0 cs=Ψ
def f_5{c:List D}(A:Fa S wl (.int m) (.int b) ds rd)(g:gc 1 7 (.int m)=Γ)(e:gc 0 5 (.int b)=Γ)(h:(ds.length:Int)=m)(f:badW ds=Ψ)(C:Cr S m cr c)(hf:flats (S.len+1) c=Γ):exS (callF prog (n+7)) c_Floods_init.body (zar c_Floods_init [.ref a,.int m,.int b,.ref wl,cr,rd]) S=exS (callF prog (n+7)) (.blk fR fH) (Ef a (.int m) (.int b) wl cr rd (Φ (.ref S.len)) (Φ (.ref (S.push (.lst ds)).len)) Ψ Ψ) ((S.push (.lst ds)).push (.lst c)):=by rw[f_4 A g e h f];rcases C.at_ with⟨rfl,rfl⟩|⟨k,rfl,i⟩;exact ziI (zs3);exact ziI (zs2 (zad i) (λd j=>(C.ty d j).mono (Up.push S _)) C.l (by rw[plen];exact hf) C.ok)
def f_6{c:List D}(A:Fa S wl (.int m) (.int b) ds rd)(g:gc 1 7 (.int m)=Γ)(d:gc 0 5 (.int b)=Γ)(h:(ds.length:Int)=m)(f:badW ds=Ψ)(C:Cr S m cr c)(hf:flats (S.len+1) c=Γ)(i:gr rd=Γ):exS (callF prog (n+7)) c_Floods_init.body (zar c_Floods_init [.ref a,.int m,.int b,.ref wl,cr,rd]) S=exS (callF prog (n+7)) fH (Ef a (.int m) (.int b) wl cr rd (Φ (.ref S.len)) (Φ (.ref (S.push (.lst ds)).len)) (Φ (.int (rnB b rd))) Ψ) ((S.push (.lst ds)).push (.lst c)):=by have v:=(Mv.push [] S (.lst ds)).trans (Mv.push [] _ (.lst c));rw[f_5 A g d h f C hf,ziI];rw[x_fR (A.t2.mono λl o e=>v.old l o (by simp) e),i];rfl
end
def zhM(h:∀d∈ds,R.flat N d=Γ):R.flats N ds=Γ:=by rw[zbh];exact h
def zhN(N:Nat)(x:Cra):R.flat N (craD x)=Γ:=by unfold craD;simp![R.flat,zbh];intro d a;simp at a;rcases a with rfl|rfl|rfl;rfl;rfl;simp![R.flat,zbh];intro d a;let⟨i,_,rfl⟩:=mem_map.mp a;rfl
structure Pl(S U:R.St)(m:Nat)(r:Int)(c a:Nat)(ws:List Int)(cs:List Cra)(ps:List Pt):Prop where
 lk:U.lk=S.lk
 frz:U.frz=S.frz
 lp:ps.length=m
 at_:∃hl lt,U.get a=Φ (plD hl lt)/\U.get hl=Φ (.lst (ps.map λp=>.ref p.a))/\U.get lt=Φ (.lst (lets m r ps 1 c (ws.map λw=>⟨[w],[],Ψ⟩)))
 lr:(rnds m r ps 1 c (ws.map λw=>⟨[w],[],Ψ⟩)).length=m
 p1:∀(i:Nat) p h,ps[i]?=Φ p->(rnds m r ps 1 c (ws.map λw=>⟨[w],[],Ψ⟩))[i]?=Φ h->P1 U m r i p h
 cn:∀(i:Nat) p,ps[i]?=Φ p->(∀x∈cs,x.1≠i)->p.cr=Ψ
 cy:∀(i:Nat) p,ps[i]?=Φ p->∀x∈cs,x.1=i->∃c,p.cr=Φ (c,x.2.1,x.2.2)
 old:∀l o,l≠a->S.get l=Φ o->U.get l=Φ o
def zsk{m n c a wl bl tl u:Nat}(e:J.get a=Φ (.ins 2 []))(hf:Fr J a)(gh:J.get u=Φ (.lst (g.map λp=>.ref p.a)))(gt:J.get tl=Φ (.lst (cs.map craD)))(H:Hm J m z S.len 0 g ws)(na:∀p∈g,a∉adr p)(nh:∀p∈g,u∉adr p)(nha:u≠a)(hw:ws.length=m)(m7:m<=7)(hk:∀l∈S.lk,l<S.len)(c8:c<=8)(hz:z=(c:Nat))(vc:∀x∈cs,VC (m:Nat) x)(nd:(cs.map (·.1)).Nodup)(hS:Mv [] S J) :
  W (exS (callF prog (n+7)) fP (Ef a (.int (m:Nat)) (.int b) wl cr rd (Φ (.ref bl)) (Φ (.ref tl)) (Φ (.int z)) (Φ (.ref u))) J) λf U=>(∃δ,f=.nx δ)/\∃g,Pl S U m z c a ws cs g:=by
 have N:g.length=m:=by rw[H.l,hw]
 refine zkJ (wE_W _ ?_);refine za2 ((zqV (m:=m) (r:=z) gh gt (λp s=>(H.ad p s).1) (λi p k=>?_) (λx B=>⟨by have:=(vc x B).h;lia,by have:=(vc x B).l;lia⟩) (by lia) nd).mono λd T hT=>?_);have L:i<ws.length:=by rw[<-H.l];exact(Α.mp k).1
 have:=(H.g i p ws[i] k (by simp)).1;rw[zero_add]at this;exact⟨Ψ,this⟩;let⟨th,j,rfl,t1,t2,t3,M,t5,t6,t7,O,t9⟩:=hT;have ea:j.map adr=g.map adr/\(j.map λp=>D.ref p.a)=g.map λp=>D.ref p.a:=by
  have Q:∀(i:Nat),(j[i]?.map λp=>(p.a,p.wb,p.hr))=g[i]?.map λp=>(p.a,p.wb,p.hr):=λi=>by
   cases k:g[i]? with
   |none=>
    have:j[i]?=Ψ:=by rw[List.getElem?_eq_none_iff]at k⊢;lia
    rw[this]
   |some p=>let⟨C,v,q2,Y,q4,_,_⟩:=t9 i p k;rw[v];simp[q2,Y,q4]
  refine⟨ext_getElem? λi=>?_,ext_getElem? λi=>?_⟩;have:=congrArg (Option.map λx:Nat×Nat×Nat=>[x.1,x.2.1,x.2.2]) (Q i);rw[Option.map_map,Option.map_map]at this;rw[getElem?_map,getElem?_map];exact this;have:=congrArg (Option.map λx:Nat×Nat×Nat=>D.ref x.1) (Q i);rw[Option.map_map,Option.map_map]at this;rw[getElem?_map,getElem?_map];exact this
 have bk:∀C∈j,∃p∈g,adr p=adr C:=λC s=>by have:adr C∈j.map adr:=mem_map.mpr ⟨C,s,rfl⟩;rw[ea.1]at this;let⟨p,h1,h2⟩:=mem_map.mp this;exact⟨p,h1,h2⟩
 have sl:=hS.len;have ff:S.frz.length<=S.len:=by unfold St.len;lia
 have fr:∀l,S.len<=l->Fr T l:=λl u=>⟨by rw[t1,hS.frz];lia,by rw[t2,hS.lk,Bool.eq_false_iff];intro q;have:=hk _ (List.contains_iff_mem.mp q);lia⟩;have X:T0 T m z th j (ws.map λw=>⟨[w],[],Ψ⟩):=by
  refine⟨by rw[O,N],by rw[length_map,hw],t6,λi C h k e2=>?_,?_,λp s t=>?_,λl u=>?_⟩;rw[getElem?_map]at e2;cases e3:ws[i]? with
  |none=>rw[e3]at e2;exact nS e2
  |some w=>
   rw[e3]at e2;cases e2;have L:i<g.length:=by rw[<-O];exact(Α.mp k).1
   have A:=Η L;let⟨p'',v,q2,Y,q4,_,_⟩:=t9 i g[i] A;rw[k]at v;cases v;let⟨g1,g2,g3⟩:=H.g i _ w A e3;rw[zero_add]at g1;have ad:=(H.ad g[i] (mem_of_getElem? A)).2;refine⟨⟨by rw[q2,Y,q4];exact M _ _ g1,by rw[Y];exact M _ _ g2,by rw[q4];exact M _ _ g3,λc last rs ec=>t7 i C c last rs k ec,by simp⟩,⟨fr _ ?_,fr _ ?_,fr _ ?_⟩⟩;rw[q2];exact(ad _ (by simp[adr])).1;rw[Y];exact(ad _ (by simp[adr])).1;rw[q4];exact(ad _ (by simp[adr])).1
  have h1:(j.map adr).Pairwise λx y=>∀z∈x,z∉y:=by rw[ea.1,pairwise_map];exact H.dj
  rw[pairwise_map]at h1;exact h1;let⟨q,E,I⟩:=bk p s;rw[<-I]at t;have:=((H.ad q E).2 th t).2;lia;rw[t2,hS.lk]at u;have:=hk l u;lia
 have na':∀p∈j,a∉adr p:=λp s t=>by let⟨q,E,I⟩:=bk p s;rw[<-I]at t;exact na q E t
 have nh':∀p∈j,u∉adr p:=λp s t=>by let⟨q,E,I⟩:=bk p s;rw[<-I]at t;exact nh q E t
 have G:∀h∈(ws.map λw=>(⟨[w],[],Ψ⟩:Hn)),Gh ws 0 h:=λh hh=>by let⟨w,hw,rfl⟩:=mem_map.mp hh;exact⟨⟨by simp,λx B=>by simp at B;subst B;exact hw⟩,by simp,by simp⟩
 refine za2 ((zoW X (M _ _ e) ⟨by rw[t1];exact hf.f,by rw[t2];exact hf.k⟩ na' m7 (by lia) G c8 hz).mono λd U hU=>?_);let⟨rfl,u1,u2,⟨lt,u3,u7⟩,u4,u5,u6⟩:=hU;refine⟨⟨_,rfl⟩,j,by rw[u1,t2,hS.lk],by rw[u2,t1,hS.frz],by rw[O,N],⟨u,lt,u3,by rw[ea.2];exact u6 _ _ nha nh' (M _ _ gh),u7⟩,u4,u5,λi p k hn=>?_,λi p k x B xi=>?_,λl o nl e0=>?_⟩;have L:i<g.length:=by rw[<-O];exact(Α.mp k).1
 have A:=Η L;let⟨p'',v,_,_,_,q5,_⟩:=t9 i g[i] A;rw[k]at v;cases v;rw[q5 hn];exact(H.ad _ (mem_of_getElem? A)).1;have L:i<g.length:=by rw[<-O];exact(Α.mp k).1
 have A:=Η L;let⟨p'',v,_,_,_,_,q6⟩:=t9 i g[i] A;rw[k]at v;cases v;exact q6 x B xi;refine u6 l o nl (λp s t=>?_) (M _ _ (hS.old _ _ (by simp) e0));let⟨q,E,I⟩:=bk p s;rw[<-I]at t;have:=((H.ad q E).2 l t).1;have:=zak e0;lia
def zsj{b z:Int}(e:S.get a=Φ (.ins 2 []))(hf:Fr S a)(t:S.get h=Φ (.lst (ws.map D.int)))(gt:S.get tl=Φ (.lst (o.map craD)))(hw:ws.length=m)(E:1<=m)(m7:m<=7)(hk:∀l∈S.lk,l<S.len)
  (G:z<=8) (hz:z=(c:Nat)) (vc:∀x∈o,VC (m:Nat) x) (nd:(o.map (·.1)).Nodup) :
  W (exS (callF prog (n+7)) fH (Ef a (.int (m:Nat)) (.int b) I cr rd (Φ (.ref h)) (Φ (.ref tl)) (Φ (.int z)) v) S) λf U=>(∃δ,f=.nx δ)/\∃d,Pl S U m z c a ws o d:=by
 refine zdY (wE_W _ ?_);have en:zb9 S (.ref h)=Φ (en 0 (ws.map D.int),[h]):=by unfold zb9;dsimp only;rw[t,<-en_0]
 exists en;apply zbj;have q:=zak t;refine(zks ws 0 {S with lk:=[h]++S.lk} Ψ Ψ (λl r=>by rcases mem_cons.mp r with rfl|r;exact q;exact hk l r)).mono λJ U u=>?_;let⟨d,rfl,j,H⟩:=u;have y:d.length=m:=by rw[H.l,hw]
 change by rw[length_map];lia
 change by rw[length_map];lia
 have j:=j.lock;have H:Hm {U with lk:=S.lk} m z S.len 0 d ws:=⟨H.l,H.ad,H.dj,H.g⟩;have k:=j.trans (Mv.push [] {U with lk:=S.lk} (.lst (d.map λp=>D.ref p.a)));have gh:=zap {U with lk:=S.lk} (.lst (d.map λp=>D.ref p.a));have A:Hm (({U with lk:=S.lk}:R.St).push (.lst (d.map λp=>D.ref p.a))) m z S.len 0 d ws:=⟨H.l,λp g=>⟨(H.ad p g).1,λz hz=>by have:=(H.ad p g).2 z hz;rw[plen];lia⟩,H.dj,λi p w B C=>let ⟨a,b,c⟩:=H.g i p w B C;⟨zad a,zad b,zad c⟩⟩;exact zsk (e:=k.old _ _ (by simp) e) (hf:=hf.mv k) (gh:=gh) (gt:=k.old _ _ (by simp) gt) (H:=A) (na:=λp g s=>by have:=((H.ad p g).2 a s).1;have:=zak e;lia) (nh:=λp g s=>by have:=((H.ad p g).2 _ s).2;lia) (nha:=by have:=zak e;have:=j.len;lia) (hw:=hw) (m7:=m7) (hk:=hk) (c8:=by lia) (hz:=hz) (vc:=vc) (nd:=nd) (hS:=k)
def znf{m i:Int}(h:0<=i/\i<m):gh m (.int i)=Γ:=by simp[gh,h.1,h.2]
def zsv{m:Int}{x:Cra}(h:VC m x):crB m (craD x)=Γ:=by
 have a:=znf ⟨by lia,h.h⟩;have b:gt (.int x.2.1)=Γ:=by simp[gt,h.t1,h.t2]
 show(gh m (.int (x.1:Nat))&&gt (.int x.2.1)&&(x.2.2.map D.int).all (gh m))=Γ;rw[a,b,List.all_map,Bool.true_and,Bool.true_and,all_eq_true];exact λi c=>znf (h.r i c)
def zje{m:Int}:∀(a:List Cra)(hs:List Int)(k:Nat),(∀x∈a,VC m x)->(a.map λx=>((x.1:Nat):Int)).Nodup->(∀x∈a,((x.1:Nat):Int)∉hs)->scan m hs k (a.map craD)=Ψ
 | [],hs,k,_,_,_=>rfl| x::a,hs,k,h,d,f=>by rw[Υ,nodup_cons]at d;rw[Υ,scan,if_pos ⟨zsv (h x (Ν ..)),f x (Ν ..)⟩];refine zje a _ _ (λy c=>h y (Μ _ c)) d.2 λy c b=>?_;rcases mem_append.mp b with b|b;exact f y (Μ _ c) b;have e:=mem_singleton.mp b;exact d.1 (mem_map.mpr ⟨y,c,e⟩)
def zrN{c:List Cra}(h:(c.map (·.1)).Nodup):(c.map λx=>((x.1:Nat):Int)).Nodup:=by rw[show(c.map λx=>((x.1:Nat):Int))=(c.map (·.1)).map λi=>((i:Nat):Int) by rw[ϒ];rfl];exact Pairwise.map _ (λa b n e=>n (by exact_mod_cast e)) h
def znA{S:R.St}{m:Int}{x:Cra}(h:VC m x):Tyy S (craD x):=by
 refine⟨trivial,λc e y a=>?_,λc e d b=>?_⟩
 . cases e;simp at a;rcases a with rfl|rfl|rfl<;>trivial
 cases e;simp at b;subst b;refine⟨by rw[length_map];have:=h.l;lia,λy a=>?_⟩;let⟨i,_,rfl⟩:=mem_map.mp a;trivial
def zk2{ws:List Int}(h:∀w∈ws,gw (.int w)=Γ):badW (ws.map D.int)=Ψ:=by unfold badW;rw[List.find?_eq_none];intro d a;let⟨w,b,rfl⟩:=mem_map.mp a;simp[h w b]
def zoZ{S:R.St}{n a k m c:Nat}{b:Int}{ws:List Int}{g:List Cra}{cr rd:D}(e:S.get a=Φ (.ins 2 []))(hf:Fr S a)(p:S.get k=Φ (.lst (ws.map D.int)))(hw:ws.length=m)(v:1<=m)(m7:m<=7)(L:0<=b)(M:b<=5)(y:∀w∈ws,gw (.int w)=Γ)(hk:∀l∈S.lk,l<S.len)(q:g.length<=1000)
  (r:(cr=.non/\g=[])\/∃cl,cr=.ref cl/\S.get cl=Φ (.lst (g.map craD))) (B:Ty S rd) (s:gr rd=Γ) (O:c<=8) (hz:rnB b rd=(c:Nat)) (vc:∀x∈g,VC (m:Nat) x) (nd:(g.map (·.1)).Nodup) :
  W (appW (callF prog (n+8)) 33 [.ref a,.int (m:Nat),.int b,.ref k,cr,rd] S) λd U=>d=.non/\∃t,Pl S U m (c:Nat) c a ws g t:=by
 have A:Fa S k (.int (m:Nat)) (.int b) (ws.map D.int) rd:=⟨trivial,trivial,p,λd i=>by let⟨w,_,rfl⟩:=mem_map.mp i;trivial,by rw[length_map];lia,B⟩;have u:∀N,flats N (g.map craD)=Γ:=λN=>zhM λd i=>by let⟨x,_,rfl⟩:=mem_map.mp i;exact zhN N x
 have C:Cr S (m:Nat) cr (g.map craD):=⟨r.imp (λh=>⟨h.1,by rw[h.2];rfl⟩) id,λd i=>by let⟨x,E,rfl⟩:=mem_map.mp i;exact znA (vc x E),by rw[length_map];exact q,u _,zje g [] 0 vc (zrN nd) (by simp)⟩;refine zbG rfl rfl ?_;rw[f_6 A (by simp[gc];lia) (by simp[gc];lia) (by rw[length_map,hw]) (zk2 y) C (u _) s,hz];have j:=(Mv.push [] S (.lst (ws.map D.int))).trans (Mv.push [] _ (.lst (g.map craD)));refine(zsj (j.old _ _ (by simp) e) (hf.mv j) (zad (zan S _)) (zan _ _) hw v m7 (by exact λl G=>lt_of_lt_of_le (hk l G) j.len) (by lia) rfl vc nd).mono λf U H=>?_;let⟨⟨Q,rfl⟩,t,P⟩:=H;exact⟨rfl,t,P.lk,P.frz,P.lp,P.at_,P.lr,P.p1,P.cn,P.cy,λl o I J=>P.old l o I (j.old _ _ (by simp) J)⟩
structure La(ps:List Pt)(b m:Nat):Prop where
 l:ps.length=m
 c:∀(i:Nat) p,ps[i]?=Φ p->i<b->∃c,p.cr=Φ (c,((i:Nat):Int)+1,[((i:Nat):Int)+1])
 n:∀(i:Nat) p,ps[i]?=Φ p->b<=i->p.cr=Ψ
def La.rch{a:List Pt}{b m j i t:Nat}{p:Pt}(L:La a b m)(e:a[j]?=Φ p):p.rch ((t+1:Nat):Int) ((i:Nat):Int)=Γ↔t<j\/b<=j\/(j=t/\i=t+1):=by unfold Pt.rch;by_cases h:j<b;let⟨c,d⟩:=L.c j p e h;rw[d];simp![Kz.rch,ϙ,Ε,decide_eq_true_eq,mem_singleton];omega;rw[L.n j p e (by omega)];simp![true_iff];omega
def La.on{a:List Pt}{b m j t:Nat}{p:Pt}(L:La a b m)(e:a[j]?=Φ p):p.on ((t+1:Nat):Int)↔t<j\/b<=j:=by unfold Pt.on;by_cases h:j<b;let⟨c,d⟩:=L.c j p e h;rw[d];lia;rw[L.n j p e (by lia)];lia
def mem_ltF{m:Nat}{t:Int}{x:Lt}:∀{e:List Pt}{hs:List Hn}{k:Nat},x∈ltF m t k e hs↔∃(j:Nat) (p:Pt) (h:Hn) (o:Int),e[j]?=Φ p/\hs[j]?=Φ h/\o∈oths m ((k+j:Nat):Int)/\x=(((k+j:Nat):Int),o,if p.rch t o=Γ then Φ (zaq h.K) else Ψ)
 | [],hs,k=>by simp[ltF]|_::_,[],k=>by simp[ltF]| p::e,h::hs,k=>by rw[ltF,mem_append,mem_ltF];constructor;rintro(f|⟨j,q,g,o,a,b,c,d⟩);let⟨o,i,rfl⟩:=mem_map.mp f;exact⟨0,p,h,o,rfl,rfl,i,rfl⟩;exact⟨j+1,q,g,o,by simpa using a,by simpa using b,by rw[show k+(j+1)=k+1+j by lia];exact c,by rw[show k+(j+1)=k+1+j by lia];exact d⟩;rintro⟨j,q,g,o,a,b,c,d⟩;cases j with| zero=>cases a;cases b;exact .inl (mem_map.mpr ⟨o,c,d.symm⟩)|succ j=>exact .inr ⟨j,q,g,o,by simpa using a,by simpa using b,by rw[show k+1+j=k+(j+1) by lia];exact c,by rw[show k+1+j=k+(j+1) by lia];exact d⟩
def zhv{m j i:Nat}(a:i<m):((i:Nat):Int)∈oths m ((j:Nat):Int)↔i≠j:=by unfold oths hnds;simp![mem_filter,mem_map,mem_range,Ϡ,decide_eq_false_iff_not];constructor;rintro⟨_,h⟩ rfl;exact h rfl;exact λh=>⟨⟨i,a,rfl⟩,by lia⟩
def zen{m i:Nat}{t:Int}{d:List Pt}{hs:List Hn}{y:Ltr}(e:i<m):y∈box (ltF m t 0 d hs) ((i:Nat):Int)↔∃(j:Nat) (p:Pt) (h:Hn),d[j]?=Φ p/\hs[j]?=Φ h/\i≠j/\y=(((j:Nat):Int),if p.rch t ((i:Nat):Int)=Γ then Φ (zaq h.K) else Ψ):=by
 unfold box;rw[mem_map];constructor;rintro⟨x,f,rfl⟩;let⟨g,k⟩:=mem_filter.mp f;let⟨j,p,h,o,a,b,c,rfl⟩:=mem_ltF.mp g;obtain rfl:o=((i:Nat):Int):=by simpa using k
 rw[zero_add]at *;exact⟨j,p,h,a,b,(zhv e).mp c,rfl⟩;rintro⟨j,p,h,a,b,c,rfl⟩;exact⟨_,mem_filter.mpr ⟨mem_ltF.mpr ⟨j,p,h,((i:Nat):Int),a,b,by rw[zero_add];exact(zhv e).mpr c,rfl⟩,by simp⟩,by rw[zero_add]⟩
def zk4:∀{a b:List Int},a.Pairwise (· < ·)->b.Pairwise (· < ·)->(∀x,x∈a↔x∈b)->a=b
 | [],[],_,_,_=>rfl| [],y::b,_,_,h=>by have:=(h y).mpr (by simp);simp at this|x::a,[],_,_,h=>by have:=(h x).mp (by simp);simp at this| x::a,y::b,g,i,h=>by
  rw[pairwise_cons]at g i;have j:x=y:=by
   have c:x=y\/x∈b:=by simpa using(h x).mp (by simp)
   have d:y=x\/y∈a:=by simpa using(h y).mpr (by simp)
   rcases c with c|c;exact c;rcases d with d|d;exact d.symm;have:=g.1 y d;have:=i.1 x c;lia
  subst j;rw[zk4 g.2 i.2 λz=>⟨λf=>?_,λf=>?_⟩];have c:z=x\/z∈b:=by simpa using(h z).mp (by simp[f])
  exact c.resolve_left λe=>by have:=g.1 z f;lia
  have c:z=x\/z∈a:=by simpa using(h z).mpr (by simp[f])
  exact c.resolve_left λe=>by have:=i.1 z f;lia
def zoU{c:List Ltr}{x:Int}:x∈wrs c↔∃y∈c,y.2.isSome=Γ/\x=y.1:=by
 unfold wrs;rw[List.mem_filterMap];constructor;rintro⟨y,b,e⟩;cases a:y.2 with
 |none=>rw[a]at e;exact nS e
 |some q=>rw[a]at e;cases e;exact⟨y,b,by rw[a];rfl,rfl⟩
 rintro⟨y,b,e,rfl⟩;let⟨q,a⟩:=Option.isSome_iff_exists.mp e;exact⟨y,b,by rw[a];rfl⟩
def zoV{i x:Int}{a:List Ltr}:x∈nowZ i a↔x=i\/x∈wrs a:=by unfold nowZ;rw[(zas _).mem_iff,zf2,mem_cons]
def zjR(i:Int)(c:List Ltr):(nowZ i c).Pairwise (· < ·):=by have d:=zaR (dedup (i::wrs c));have e:(zaq (dedup (i::wrs c))).Nodup:=(zas _).nodup_iff.mpr (zci _);exact d.imp₂ (λa b h q=>by lia) e
def zne{K:List Int}(h:K≠[]):hdZ (zaq K)∈K:=by unfold hdZ;cases e:zaq K with| nil=>have:=(zas K).length_eq;rw[e]at this;exact absurd (length_eq_zero_iff.mp this.symm) h|cons x l=>exact(zas K).mem_iff.mp (by rw[e];simp)
def zkv{K:List Int}{w:Int}(h:w∈K)(q:∀x∈K,w<=x):hdZ (zaq K)=w:=by
 have c:=q _ (zne (List.ne_nil_of_mem h));have d:hdZ (zaq K)<=w:=by have b:=zaR K;have a:=(zas K).mem_iff.mpr h;cases e:zaq K with|nil=>rw[e]at a;simp at a| cons x l=>rw[e]at a b;rcases mem_cons.mp a with rfl|a;exact Int.le_refl _;exact(pairwise_cons.mp b).1 w a
 lia
structure Iv(b m t:Nat)(low:Int)(hs:List Hn):Prop where
 l:hs.length=m
 k:∀(i:Nat) h,hs[i]?=Φ h->(low∈h.K↔i<=t)
 e:∀(i:Nat) h,hs[i]?=Φ h->b<=i->h.en=Ψ/\(bfZ m h.H).Pairwise (· < ·)/\∀x:Int,x∈bfZ m h.H↔(t:Int)<=x/\x<(m:Int)
section
variable{ps:List Pt}{hs:List Hn}{b m t i:Nat}{low:Int}{r:Int}{g:Hn}
def zgp(e:(rnd m r ((t+1:Nat):Int) ps hs)[i]?=Φ g):∃p h,ps[i]?=Φ p/\hs[i]?=Φ h/\g=zcE m r ((t+1:Nat):Int) i p h (box (ltF m ((t+1:Nat):Int) 0 ps hs) ((i:Nat):Int)):=by let⟨p,h,c,d,a⟩:=zdd m r _ _ ps hs 0 i g e;rw[zero_add]at a;exact⟨p,h,c,d,a⟩
def iv_k(L:La ps b m)(V:Iv b m t low hs)(B:t<b)(C:b<m)(e:(rnd m r ((t+1:Nat):Int) ps hs)[i]?=Φ g):low∈g.K↔i<=t+1:=by
 let⟨p,h,n,u,rfl⟩:=zgp e;have s:i<m:=by rw[<-L.l];exact(Α.mp n).1
 have k:=V.k i h u;unfold zcE;split;rename_i o;have o:=(L.on n).mp o;show low∈lrn h.K _↔_;rw[mem_lrn];constructor;rintro(v|⟨y,w,q,c,x⟩);lia;let⟨j,d,a,f,l,E,rfl⟩:=(zen s).mp w;split at c;rename_i A;cases c;have G:=(V.k j a l).mp ((zas _).mem_iff.mp x);have H:=(L.rch f).mp A;lia;exact nS c;intro v;refine .inr ?_;obtain⟨d,f⟩:∃d,ps[t]?=Φ d:=⟨_,Η (by rw[L.l];lia)⟩;obtain⟨a,l⟩:∃a,hs[t]?=Φ a:=⟨_,Η (by rw[V.l];lia)⟩;refine⟨_,(zen s).mpr ⟨t,d,a,f,l,by lia,rfl⟩,zaq a.K,?_,(zas _).mem_iff.mpr ((V.k t a l).mpr (le_refl _))⟩;rw[if_pos ((L.rch f).mpr (by lia))];rename_i o;have o:¬(t<i\/b<=i):=λz=>o ((L.on n).mpr z);lia
def zr7(L:La ps b m)(V:Iv b m t low hs)(o:t<b)(bi:b<=i)(f:i<m)(x:Int):x∈nowZ ((i:Nat):Int) (box (ltF m ((t+1:Nat):Int) 0 ps hs) ((i:Nat):Int))↔((t:Int)+1<=x/\x<(m:Int))\/(x=(t:Int)/\i=t+1):=by
 rw[zoV,zoU];constructor;rintro(rfl|⟨y,k,e,rfl⟩);lia;let⟨j,c,d,a,h,p,rfl⟩:=(zen f).mp k;have q:j<m:=by rw[<-L.l];exact(Α.mp a).1
 split at e;rename_i l;have s:=(L.rch a).mp l;lia;exact nB e;intro u;by_cases n:x=((i:Nat):Int);exact .inl n;refine .inr ?_;obtain⟨j,rfl⟩:∃j:Nat,x=(j:Int):=⟨x.toNat,by lia⟩;obtain⟨c,a⟩:∃c,ps[j]?=Φ c:=⟨_,Η (by rw[L.l];lia)⟩;obtain⟨d,h⟩:∃d,hs[j]?=Φ d:=⟨_,Η (by rw[V.l];lia)⟩;refine⟨_,(zen f).mpr ⟨j,c,d,a,h,by lia,rfl⟩,?_,rfl⟩;rw[if_pos ((L.rch a).mpr (by lia))];rfl
def zpC(H:List (List Int))(x:List Int):bfZ m (H++[x])=x:=by unfold bfZ;simp
def iv_g(L:La ps b m)(V:Iv b m t low hs)(f:t<b)(bi:b<=i)(e:(rnd m r ((t+1:Nat):Int) ps hs)[i]?=Φ g):(bfZ m g.H).Pairwise (· < ·)/\(∀x:Int,x∈bfZ m g.H↔((t:Int)+1<=x/\x<(m:Int))\/(x=(t:Int)/\i=t+1))/\g.en=if i=t+1\/r<=((t+1:Nat):Int) then Φ (((t+1:Nat):Int),hdZ (zaq g.K)) else Ψ:=by
 let⟨p,h,c,j,rfl⟩:=zgp e;have k:i<m:=by rw[<-L.l];exact(Α.mp c).1
 have o:p.on ((t+1:Nat):Int):=(L.on c).mpr (.inr bi);let⟨l,n,d⟩:=V.e i h j bi;have a:=zr7 L V f bi k;unfold zcE;rw[if_pos o];unfold zi8;rw[zpC];refine⟨zjR _ _,a,?_⟩;rw[l];unfold enZ;have q:(nowZ ((i:Nat):Int) (box (ltF m ((t+1:Nat):Int) 0 ps hs) ((i:Nat):Int))=bfZ m h.H)↔i=t+1:=by constructor;intro z;have s:=(d t).mpr (by lia);rw[<-z,a]at s;lia;intro z;refine zk4 (zjR _ _) n λx=>?_;rw[a,d];lia
 simp![q]
def zpc(L:La ps b m)(V:Iv b m t low hs)(h:t+1<b)(a:b<m)(j:(b:Int)<=r):Iv b m (t+1) low (rnd m r ((t+1:Nat):Int) ps hs):=by refine⟨?_,λi g e=>iv_k L V (by lia) a e,λi g e bi=>?_⟩;unfold rnd;rw[zdc _ _ _ _ _ _ _ (by rw[L.l,V.l]),V.l];let⟨c,d,f⟩:=iv_g L V (by lia) bi e;refine⟨by rw[f,if_neg (by lia)],c,λx=>?_⟩;rw[d];lia
def zm9(L:La ps b m)(a:b<m)(d:(b:Int)<=r):∀(c t:Nat)(hs:List Hn),Iv b m t low hs->t+c<b->Iv b m (t+c) low (rnds m r ps (t+1) c hs)
 |0,t,hs,V,_=>V| c+1,t,hs,V,h=>by rw[show t+(c+1)=t+1+c by lia];exact zm9 L a d c (t+1) _ (zpc L V (by lia) a d) (by lia)
end
def zdp{m:Nat}{r:Int}{a:List Pt}:∀(c t:Nat)(hs:List Hn),rnds m r a t (c+1) hs=rnd m r ((t+c:Nat):Int) a (rnds m r a t c hs)
 |0,t,hs=>rfl| c+1,t,hs=>by rw[rnds,zdp c (t+1),rnds,show t+1+c=t+(c+1) by lia]
def iv_0{b m:Nat}{low:Int}{ws:List Int}(f:1<=b)(hw:ws.length=m)(h0:∀(i:Nat) w,ws[i]?=Φ w->(w=low↔i=0)):Iv b m 0 low (ws.map λw=>⟨[w],[],Ψ⟩):=by
 refine⟨by rw[length_map,hw],λi h e=>?_,λi h e bi=>?_⟩;rw[getElem?_map]at e;cases c:ws[i]? with
 |none=>rw[c]at e;exact nS e
 |some w=>rw[c]at e;cases e;have:=h0 i w c;simp![mem_singleton];constructor;intro z;lia;intro z;exact(this.mpr (by lia)).symm
 rw[getElem?_map]at e;cases c:ws[i]? with
 |none=>rw[c]at e;exact nS e
 |some w=>
  rw[c]at e;cases e;refine⟨rfl,?_,λx=>?_⟩;show(hnds m).Pairwise (· < ·);unfold hnds;rw[pairwise_map];exact List.pairwise_lt_range.imp λ{a b} h=>by lia
  show x∈hnds m↔_;unfold hnds;rw[mem_map];constructor;rintro⟨k,d,rfl⟩;have:=mem_range.mp d;lia;intro h;exact⟨x.toNat,mem_range.mpr (by lia),by lia⟩
def zfk{ws:List Int}{m:Nat}{r:Int}{b:List Pt}(hw:ws.length<=7)(m7:m<=7)(e:b.length=m):∀(c d t:Nat)(hs:List Hn),d+c<=50->(∀h∈hs,Gh ws d h)->∀g∈rnds m r b t c hs,Gh ws (d+c) g
 |0,d,t,hs,_,a=>a| c+1,d,t,hs,f,a=>by rw[show d+(c+1)=(d+1)+c by lia];exact zfk hw m7 e c (d+1) (t+1) _ (by lia) (znr hw m7 e (by lia) a)
section
variable{ps:List Pt}{ws:List Int}{b m:Nat}{low:Int}
structure Lo(ws:List Int)(m:Nat)(low:Int):Prop where
 l:ws.length=m
 z:∀(i:Nat) w,ws[i]?=Φ w->(w=low↔i=0)
 le:∀w∈ws,low<=w
noncomputable abbrev h0(ws:List Int):List Hn:=ws.map λw=>⟨[w],[],Ψ⟩
def Lo.gh(O:Lo ws m low):∀h∈h0 ws,Gh ws 0 h:=λh a=>by let⟨w,c,rfl⟩:=mem_map.mp a;exact⟨⟨by simp,by simpa using c⟩,by simp,le_refl _⟩
def zpr{r:Int}(L:La ps b m)(O:Lo ws m low)(d:1<=b)(a:b<m)(m7:m<=7)(f:(b:Int)<=r){i:Nat}{g:Hn}(bi:b<=i)(e:(rnds m r ps 1 b (h0 ws))[i]?=Φ g):Gh ws b g/\(low∈g.K↔i=b)/\g.en=if i=b\/r<=(b:Int) then Φ ((b:Int),hdZ (zaq g.K)) else Ψ:=by
 have G:Gh ws b g:=by have:=zfk (by rw[O.l];exact m7) m7 L.l b 0 1 (h0 ws) (by lia) O.gh g (mem_of_getElem? e);rw[zero_add]at this;exact this
 obtain⟨c,rfl⟩:∃c,b=c+1:=⟨b-1,by lia⟩;rw[zdp,show 1+c=c+1 by lia]at e;have V:=zm9 L a f c 0 (h0 ws) (iv_0 d O.l O.z) (by lia);rw[zero_add]at V;let⟨_,_,h⟩:=iv_g L V (by lia) bi e;refine⟨G,?_,h⟩;rw[iv_k L V (by lia) a e];lia
def zhg{r:Int}(a:ps.length=m):∀(c t:Nat)(hs:List Hn),hs.length=m->(rnds m r ps t c hs).length=m
 |0,t,hs,h=>h| c+1,t,hs,h=>by refine zhg a c _ _ ?_;unfold rnd;rw[zdc _ _ _ _ _ _ _ (by rw[a,h]),h]
def zt9(L:La ps b m)(O:Lo ws m low)(f:1<=b)(h:b<m)(m7:m<=7){i:Nat}{g:Hn}(bi:b<=i)(e:(rnds m (b:Int) ps 1 b (h0 ws))[i]?=Φ g):∃v,g.en=Φ ((b:Int),v)/\v∈ws/\(v=low↔i=b):=by let⟨G,a,c⟩:=zpr L O f h m7 (Int.le_refl _) bi e;rw[if_pos (.inr (Int.le_refl _))]at c;have d:=zne G.k;refine⟨_,c,G.sb.sub _ d,⟨λz=>a.mp (by rw[<-z];exact d),λz=>zkv (a.mpr z) λx j=>O.le x (G.sb.sub x j)⟩⟩
def zt8(L:La ps b m)(O:Lo ws m low)(n:1<=b)(o:b<m)(m7:m<=7){i:Nat}{g:Hn}(bi:b<=i)(e:(rnds m ((b:Int)+1) ps 1 (b+1) (h0 ws))[i]?=Φ g):∃v,g.en=Φ (v,low):=by
 rw[zdp,show 1+b=b+1 by lia]at e;have z:=zhg (r:=(b:Int)+1) L.l b 1 (h0 ws) (by rw[length_map,O.l]);let⟨p,h,s,A,rfl⟩:=zgp e;have t:i<m:=by rw[<-L.l];exact(Α.mp s).1
 let⟨G,B,C⟩:=zpr L O n o m7 (by lia) bi A;have E:p.on ((b+1:Nat):Int):=(L.on s).mpr (.inr bi);unfold zcE;rw[if_pos E];unfold zi8;rw[C];by_cases u:i=b;rw[if_pos (.inl u)];rw[zkv (B.mpr u) λx a=>O.le x (G.sb.sub x a)];exact⟨_,rfl⟩;rw[if_neg (by lia)];unfold enZ;rw[if_pos (.inr (by lia))];rw[zkv (mem_lrn.mpr (.inr ?_)) λx a=>?_];exact⟨_,rfl⟩;obtain⟨d,l⟩:∃d,ps[b]?=Φ d:=⟨_,Η (by rw[L.l];lia)⟩;obtain⟨c,f⟩:∃c,(rnds m ((b:Int)+1) ps 1 b (h0 ws))[b]?=Φ c:=⟨_,Η (by lia)⟩;refine⟨_,(zen t).mpr ⟨b,d,c,l,f,by lia,rfl⟩,zaq c.K,?_,(zas _).mem_iff.mpr ((zpr L O n o m7 (by lia) (le_refl _) f).2.1.mpr rfl)⟩;rw[if_pos ((L.rch l).mpr (by lia))];rcases mem_lrn.mp a with a|⟨y,H,q,k,a⟩;exact O.le x (G.sb.sub x a);let⟨j,d,c,l,f,J,rfl⟩:=(zen t).mp H;split at k;cases k;have I:=zfk (by rw[O.l];exact m7) m7 L.l b 0 1 (h0 ws) (by lia) O.gh c (mem_of_getElem? f);exact O.le x (I.sb.sub x ((zas _).mem_iff.mp a));exact nS k
end
def zgH{f g:D->Option PyData}(h:∀x a,f x=Φ a->g x=Φ a):∀{xs:List D}{as:List PyData},xs.mapM f=Φ as->xs.mapM g=Φ as
 | [],as,e=>by simpa using e| x::xs,as,e=>by
  rw[Ϝ]at e⊢;cases b:f x with
  |none=>rw[b]at e;exact nS e
  |some a=>
   rw[b]at e;cases c:xs.mapM f with
   |none=>rw[c]at e;exact nS e
   |some d=>rw[c]at e;rw[h x a b,zgH h c];exact e
open PySem (PyData) in
def ztA{S T:R.St}(u:Up S T):∀{n:Nat}{d:D}{a:PyData},pd S n d=Φ a->pd T n d=Φ a:=by
 intro n;induction n with
 |zero=>intro d a h;cases d<;>simp![pd]at h⊢<;> first|exact h|cases h
 |succ n ih=>
  intro d a h;cases d with
  |tup ds=>
   simp![pd]at h⊢;cases e:ds.mapM (pd S n) with
   |none=>rw[e]at h;cases h
   |some xs=>rw[e]at h;rw[zgH (λx a=>ih) e];exact h
  |ref l=>
   simp![pd]at h⊢;split at h;rename_i ds g;rw[u _ _ g];cases e:ds.mapM (pd S n) with
   |none=>rw[e]at h;cases h
   |some xs=>rw[e]at h;simp![zgH (λx a=>ih) e];exact h
   cases h
  |_=>simp![pd]at h⊢;first|exact h|cases h
section
variable{S:R.St}{n:Nat}{ns:List Int}
def zfq{k:Nat}:app (callF prog (n+1)) 16 [.fix (ns.map .int),.int k] S=.ok (.int (zbb ns k)) S:=by
 apply zcc rfl rfl;refine zc4 (λc=>?_) (λc=>?_);have c:k<ns.length:=by simpa using c
 exists zdX (x:=D.int ns[k]) (by simp);change by decide
 change by decide
 refine zao rfl ⟨?_,rfl⟩;unfold zbb;rw[Η c];rfl;have c:¬k<ns.length:=by simpa using c
 refine zao rfl ⟨?_,rfl⟩;unfold zbb;rw[List.getElem?_eq_none (by lia)]
def zog{k:Int}(hk:0<=k):app (callF prog (n+1)) 16 [.fix (ns.map .int),.int k] S=.ok (.int (zbb ns k.toNat)) S:=by have:=zfq (n:=n) (S:=S) (ns:=ns) (k:=k.toNat);rw[show((k.toNat:Nat):Int)=k by lia]at this;exact this
def znx{op:PySem.CmpOp}{x y:D}{k:Bool}{Q:Bool->Prop}(e:cmpD S op x y=Φ k)(q:Q k):wCmp S op x y Q:=by unfold wCmp;split;rw[show cmpI _ _ _=Φ k from e];exact q;rename_i a;rw[zgT a]at e;split;rw[e];exact q;rw[e];exact q;unfold wOpt;rw[e];exact q
def zqX{d e:D}{r:Bool}(h:Ty S d)(g:Ty S e)(p:kB d=kB e->kI d=kI e->cmpD S.enter .Eq d e=Φ r)(q:¬(kB d=kB e/\kI d=kI e)->r=Δ):app (callF prog (n+1)) 17 [d,e] S=.ok (.bl r) S:=by
 refine zcc rfl rfl ?_;have fin:kB d=kB e->kI d=kI e->wS (callF prog n) (.ret (.cmp .Eq J0 J1) .nil) (zar zb1 [d,e]) S.enter λb T=>wFin S b T λa f=>a=D.bl r/\f=S:=λs t=>by show wCmp S.enter .Eq d e (λk=>wFin S (.rt (.bl k)) S.enter λa f=>a=D.bl r/\f=S);exact znx (p s t) (zao rfl ⟨rfl,rfl⟩)
 have i:¬(kB d=kB e/\kI d=kI e)->wS (callF prog n) (.ret (.con (D.bl Δ)) .nil) (zar zb1 [d,e]) S.enter λb T=>wFin S b T λa f=>a=D.bl r/\f=S:=λc=>by rw[q c];left;exact zao rfl ⟨rfl,rfl⟩
 left;exists h.enter.ty;left;rw[zgK];left;exists g.enter.ty;left;rw[zgK];cases j:kB d<;>cases l:kB e<;>(refine wOpt_of rfl ?_;conv=>whnf)
 rotate_left
 exact i (by rw[j,l];exact λc=>nomatch c.1);exact i (by rw[j,l];exact λc=>nomatch c.1)
 all_goals
  exists h.enter.ty;rw[zkg];left;exists g.enter.ty;rw[zkg];cases m:kI d<;>cases o:kI e<;>(refine wOpt_of rfl ?_;first|exact fin (by rw[j,l]) (by rw[m,o])|exact i (by rw[m,o];exact λc=>nomatch c.2))
def Th.mono{T:R.St}{d:D}(h:Th S d)(u:Up S T):Th T d:=⟨h.ty.mono u,λv=>h.fl (u.trans v),let ⟨a,e⟩:=h.pd;⟨a,ztA u e⟩⟩
def Th.cmp{d:D}(h:Th S d):cmpD S .Eq d d=Φ Γ:=by by_cases z:∃i,d=.int i;let⟨i,rfl⟩:=z;simp[cmpD,cmpI];rw[zgT λi j e _=>z ⟨i,e⟩];exact h.same
def zoe{d:D}(h:Th S d):app (callF prog (n+1)) 17 [d,d] S=.ok (.bl Γ) S:=zqX h.ty h.ty (λ_ _=>(h.mono (.enter S)).cmp) λc=>absurd ⟨rfl,rfl⟩ c
end
def zmd{S T:R.St}(a:T.frz=S.frz++S.new):(R.St.mk S.frz (S.new++T.new) S.lk).len=T.len:=by unfold St.len;rw[a];simp[length_append];lia
def zpb{S T:R.St}(v:Mv [] S.enter T):Mv [] S ⟨S.frz,S.new++T.new,S.lk⟩:=⟨rfl,rfl,by rw[zmd v.frz];have:=v.len;rw[R.enter_len]at this;exact this,λl o _ e=>by rw[zbZ v.frz];exact v.old l o (by simp) (by rw[za6];exact e)⟩
def zhR{S:R.St}{x c:Nat}{a:List (PySem.Str×D)}(e:S.get x=Φ (.exc c a)):zc9 S (.ref x)=Φ (c,a):=by unfold zc9;dsimp only;rw[e]
def zqb{cf:CF}{b:TrB}{x:PySem.Str}{a d l c:Nat}{r:CS}{δ:Ev}{S T:R.St}{e:List (PySem.Str×D)}{Q:Fl->R.St->Prop}(h:exT cf b δ S=.err (.ref l) T)(f:T.get l=Φ (.exc c e))(w:W (exS cf r ((δ.set a Ψ).set d (Φ (.ref l))) T) Q):wOut (exS cf (.tryS b x a d r) δ S) Q:=by refine za2 ?_;(conv=>lhs;whnf);rw[h];dsimp only;rw[zhR f];exact w
def zdh{S U:R.St}(hk:∀l∈S.lk,l<S.len)(v:Mv [] S U){z:Nat}(h:S.len<=z):Fr U z:=by
 refine⟨?_,?_⟩;rw[v.frz];have:S.frz.length<=S.len:=by unfold St.len;lia
 lia;rw[v.lk,Bool.eq_false_iff];intro c;have:=hk _ (List.contains_iff_mem.mp c);lia
structure Gd(S:R.St)(wl m c:Nat)(b:Int)(ws:List Int)(cs:List Cra)(cr rd:D):Prop where
 gw:S.get wl=Φ (.lst (ws.map D.int))
 hw:ws.length=m
 m1:1<=m
 m7:m<=7
 b0:0<=b
 b5:b<=5
 wb:∀w∈ws,Kz.gw (.int w)=Γ
 cl:cs.length<=1000
 cg:(cr=.non/\cs=[])\/∃cl,cr=.ref cl/\S.get cl=Φ (.lst (cs.map craD))
 tr:Ty S rd
 rg:gr rd=Γ
 z8:c<=8
 hz:rnB b rd=(c:Nat)
 vc:∀x∈cs,VC (m:Nat) x
 nd:(cs.map (·.1)).Nodup
def Gd.init{S:R.St}{n a f m c:Nat}{b:Int}{ws:List Int}{g:List Cra}{cr rd:D}(G:Gd S f m c b ws g cr rd)(e:S.get a=Φ (.ins 2 []))(hf:Fr S a)(hk:∀l∈S.lk,l<S.len) :
  W (appW (callF prog (n+8)) 33 [.ref a,.int (m:Nat),.int b,.ref f,cr,rd] S) λd U=>d=.non/\∃h,Pl S U m (c:Nat) c a ws g h:=
 zoZ e hf G.gw G.hw G.m1 G.m7 G.b0 G.b5 G.wb hk G.cl G.cg G.tr G.rg G.z8 G.hz G.vc G.nd
def Up.mv{S T:R.St}(v:Mv [] S T):Up S T:=λl o e=>v.old l o (by simp) e
def zdl{S:R.St}{z:Int}:Th S (.int z):=⟨trivial,λ_=>rfl,_,rfl⟩
def zmM{S:R.St}:Th S .non:=⟨trivial,λ_=>rfl,_,rfl⟩
def zqh{S:R.St}{b:Bool}:Th S (.bl b):=⟨trivial,λ_=>rfl,_,rfl⟩
def zmL{S:R.St}{s:PySem.Str}(h:PySem.PyData.strOk s=Γ):Th S (.str s):=⟨trivial,λ_=>rfl,_,if_pos h⟩
def zqf{S:R.St}{z:Int}:Th S (.tup [.int z]):=⟨trivial,λ_=>rfl,_,rfl⟩
def zqg{S:R.St}{l:Nat}{zs:List Int}(e:S.get l=Φ (.lst (zs.map D.int))):Th S (.ref l):=by refine⟨⟨_,e⟩,λu=>by simp[flat,zak (u _ _ e)],.list (zs.map .int),?_⟩;rw[R.pd];simp![e];rw[zgD];rfl
structure Py(S:R.St)(a hl lt m:Nat)(r:Int)(ps:List Pt):Prop where
 p:S.get a=Φ (plD hl lt)
 h:S.get hl=Φ (.lst (ps.map λp=>.ref p.a))
 l:ps.length=m
 k:∀(i:Nat) p,ps[i]?=Φ p->∃h,P1 S m r i p h/\h.H.length<=8
def P1.up{S T:R.St}{m:Nat}{r:Int}{j:Nat}{p:Pt}{h:Hn}(x:P1 S m r j p h)(u:Up S T):P1 T m r j p h:=⟨u _ _ x.a,u _ _ x.w,u _ _ x.g,λc l a e=>u _ _ (x.c c l a e),x.k⟩
def Py.up{S T:R.St}{a b c m:Nat}{r:Int}{d:List Pt}(P:Py S a b c m r d)(u:Up S T):Py T a b c m r d:=⟨u _ _ P.p,u _ _ P.h,P.l,λi p e=>let ⟨h,x,y⟩:=P.k i p e;⟨h,x.up u,y⟩⟩
def Pl.py{S U:R.St}{m c a:Nat}{r:Int}{ws:List Int}{k:List Cra}{b:List Pt}(P:Pl S U m r c a ws k b)(hw:ws.length=m)(m7:m<=7)(c8:c<=8):∃f d,Py U a f d m r b/\U.get d=Φ (.lst (lets m r b 1 c (ws.map λw=>⟨[w],[],Ψ⟩))):=by let⟨f,d,l,n,o⟩:=P.at_;refine⟨f,d,⟨l,n,P.lp,λi p e=>?_⟩,o⟩;have q:=(Α.mp e).1;obtain⟨g,j⟩:∃g,(rnds m r b 1 c (ws.map λw=>⟨[w],[],Ψ⟩))[i]?=Φ g:=⟨_,Η (by rw[P.lr,<-P.lp];exact q)⟩;refine⟨g,P.p1 i p g e j,?_⟩;have:=(zfk (ws:=ws) (by lia) m7 P.lp c 0 1 (ws.map λw=>⟨[w],[],Ψ⟩) (by lia) (λh s=>?_) g (mem_iff_getElem?.mpr ⟨i,j⟩)).hh;lia;let⟨w,t,rfl⟩:=mem_map.mp s;exact⟨⟨by simp,by simpa using t⟩,by simp,le_refl _⟩
section
variable{S:R.St}{n a hl lt m:Nat}{r:Int}{ps:List Pt}{d:D}
def znp{P:List Fn}{F:Fn}{f n:Nat}{ds:List D}{S T:R.St}{d:D}(h:P[f]?=Φ F)(hl:ds.length=F.np)(w:exS (callF P n) F.body (zar F ds) S=.ok (.rt d) T)(b:F.prim=Ψ:=by rfl):appW (callF P (n+1)) f ds S=.ok d T:=by unfold appW;simp![callF,h,hl,b,if_true,w,Out.ne,zaj]
def x_at(P:Py S a hl lt m r ps)(h:Th S d):exX (callF prog (n+3)) (.ix (.fld J0 "hands") (.call 4 #[J1,.bi .len #[.fld J0 "hands"]])) [Φ (.ref a),Φ d] S=if gh (m:Nat) d then ixX (.ref hl) d S else .err (.ref S.len) (S.push (.exc 1 [("hand",d)])):=by
 have b:evE (callF prog (n+3)) (.fld J0 "hands") [Φ (.ref a),Φ d] S=.ok (.ref hl) S:=by refine W.eq (wE_W _ ?_);left;exists zbM P.p rfl;left;exact⟨rfl,rfl⟩
 have c:evE (callF prog (n+3)) (.bi .len #[.fld J0 "hands"]) [Φ (.ref a),Φ d] S=.ok (.int (m:Nat)) S:=by refine W.eq (wE_W _ ?_);left;exists zbM P.p rfl;left;exists P.h;left;rw[length_map,P.l];exact⟨rfl,rfl⟩
 have e:evEs (callF prog (n+3)) #[J1,.bi .len #[.fld J0 "hands"]] [Φ (.ref a),Φ d] S=.ok [d,.int (m:Nat)] S:=by rw[evEs,show evE (callF prog (n+3)) J1 [Φ (.ref a),Φ d] S=.ok d S from rfl,zaj,evEs,c];rfl
 (conv=>lhs;whnf);rw[b];show Out.bind (exX (callF prog (n+3)) _ _ S) _=_;rw[exX,e];show Out.bind (appX (callF prog (n+3)) 4 [d,.int (m:Nat)] S) _=_;rw[zpS h];split<;>rfl
noncomputable abbrev onX(x:PySem.Str)(b:List (Nat×Nat)):XE:=.on (.meth "hand_at" [(2,35)] J0 #[J1]) x b
def zs1{cf:CF}(P:Py S a hl lt m r ps):exX cf (.meth "hand_at" [(2,35)] J0 #[J1]) [Φ (.ref a),Φ d] S=appW cf 35 [.ref a,d] S:=by show mthX "hand_at" [(2,35)] (.ref a) S _=_;unfold mthX;rw[zaI P.p];rfl
end
section
variable{S:R.St}{n:Nat}{d0 d1:D}{m b:Int}
def zpB{cf:CF}{b:TrB}{r:CS}{δ δ':Ev}{S S':R.St}(h:exT cf b δ S=.ok δ' S'):exS cf (.blk b r) δ S=exS cf r δ' S':=by (conv=>lhs;whnf);rw[h]
def zmD{cf:CF}{b:TrB}{r:CS}{δ:Ev}{S S':R.St}{d:D}(h:exT cf b δ S=.err d S'):exS cf (.blk b r) δ S=.ok (.ex d) S':=by (conv=>lhs;whnf);rw[h]
def zoh{cf:CF}{f:Nat}{es:CEs}{ds:List D}{δ:Ev}{S T U:R.St}{d:D}(e:evEs cf es δ S=.ok ds T)(h:appX cf f ds T=.ok d U):exT cf (.run f es) δ S=.ok δ U:=by (conv=>lhs;whnf);rw[e];dsimp only;rw[h];rfl
def zjp{cf:CF}{f:Nat}{es:CEs}{ds:List D}{δ:Ev}{S T U:R.St}{d:D}(e:evEs cf es δ S=.ok ds T)(h:appX cf f ds T=.err d U):exT cf (.run f es) δ S=.err d U:=by (conv=>lhs;whnf);rw[e];dsimp only;rw[h];rfl
def zuh{P:List Fn}{F:Fn}{f n:Nat}{ds:List D}{S T:R.St}{δ:Ev}(h:P[f]?=Φ F)(a:ds.length=F.np)(w:exS (callF P n) F.body (zar F ds) S.enter=.ok (.nx δ) T)(c:F.prim=Ψ:=by rfl):appX (callF P (n+1)) f ds S=.ok .non S:=by unfold appX;simp![callF,h,a,c,w];exact zbY S .non T rfl
abbrev lk1:TrB:=.run 3 #[J1,U1,U5]
abbrev lk2:TrB:=.run 3 #[J0,.bin .Add J1 U2,U7]
def zgI:c_look_at_counts.body=.blk lk1 (.blk lk2 .nil):=rfl
def zpR(h:Ty S d1)(g:gc 1 5 d1=Γ):exT (callF prog (n+2)) lk1 [Φ d0,Φ d1] S=.ok [Φ d0,Φ d1] S:=zoh rfl ((zcd h).trans (if_pos g))
def zub(h:Ty S d1)(g:gc 1 5 d1=Δ):exT (callF prog (n+2)) lk1 [Φ d0,Φ d1] S=.err (.ref S.len) (S.push (.exc 0 [("told",d1)])):=zjp rfl ((zcd h).trans (if_neg (by rw[g];decide)))
def zs0(h:Ty S d0)(g:gc (b+2) 7 d0=Γ):exT (callF prog (n+2)) lk2 [Φ d0,Φ (.int b)] S=.ok [Φ d0,Φ (.int b)] S:=zoh rfl ((zcd h).trans (if_pos g))
def zua(h:Ty S d0)(g:gc (b+2) 7 d0=Δ):exT (callF prog (n+2)) lk2 [Φ d0,Φ (.int b)] S=.err (.ref S.len) (S.push (.exc 0 [("told",d0)])):=zjp rfl ((zcd h).trans (if_neg (by rw[g];decide)))
def ziY{z:Int}:Ty S (.int z):=trivial
def zpQ(a:1<=b)(c:b<=5)(d:b+2<=m)(m7:m<=7):appX (callF prog (n+3)) 9 [.int m,.int b] S=.ok .non S:=by refine zuh (T:=S.enter) (δ:=[Φ (.int m),Φ (.int b)]) rfl rfl ?_;refine(zpB (zpR ziY (by simp[gc];lia))).trans ((zpB (zs0 ziY (by simp[gc];lia))).trans rfl)
def zpt(h:Ty S d1)(g:gc 1 5 d1=Δ):appX (callF prog (n+3)) 9 [d0,d1] S=.err (.ref S.len) (S.push (.exc 0 [("told",d1)])):=by refine zk6 rfl rfl ?_;exact zmD (zub h.enter g)
def zps(a:1<=b)(c:b<=5)(h:Ty S d0)(g:gc (b+2) 7 d0=Δ):appX (callF prog (n+3)) 9 [d0,.int b] S=.err (.ref S.len) (S.push (.exc 0 [("told",d0)])):=by refine zk6 rfl rfl ?_;exact(zpB (zpR ziY (by simp[gc];lia))).trans (zmD (zua h.enter g))
abbrev crs(b:Nat):List Cra:=(List.range b).map λi=>(i,((i:Nat):Int)+1,[((i:Nat):Int)+1])
abbrev shE:CE:=.mkL (.comp 1 [] [0] (.rng1 J1) (.tst (.con (D.bl Γ))) (.tup #[J0,.bin .Add J0 U1,.tup #[.bin .Add J0 U1]]))
abbrev shB:TrB:=.run 9 #[J0,J1]
def zjb:c_short_floods.body=.blk shB (.ret shE .nil):=rfl
def zli{cf:CF}{T:R.St}{b:Nat}{o:Option D}:za3 [0] (evT cf (.tst (.con (D.bl Γ)))) (evE cf (.tup #[J0,.bin .Add J0 U1,.tup #[.bin .Add J0 U1]])) ((List.range b).map λ(k:Nat)=>D.int k) [o] T=.ok ((crs b).map craD) T:=by have h:=zcC (c:=evT cf (.tst (.con (D.bl Γ)))) (e:=evE cf (.tup #[J0,.bin .Add J0 U1,.tup #[.bin .Add J0 U1]])) (S:=T) (rest:=[]) (λd=>match d with|.int i=>.tup [.int i,.int (i+1),.tup [.int (i+1)]]|_=>d) ((List.range b).map λ(k:Nat)=>D.int k) o (λx _=>rfl) (λx a=>by let⟨k,_,rfl⟩:=mem_map.mp a;rfl);rw[h,ϒ];unfold crs;rw[ϒ];rfl
def zqC{cf:CF}{T:R.St}{b:Nat}(a:b<=5)(δ:Ev)(h:(δ[1]?).join=Φ (.int (b:Nat))):evE cf shE δ T=.ok (.ref T.len) (T.push (.lst ((crs b).map craD))):=by
 refine W.eq (wE_W _ ?_);show(match (δ[1]?).join with|some d=>_|none=>False);rw[h];change by lia
 refine zbj ?_;refine W.of zli ?_;change by unfold crs;simp;lia
 change by unfold crs;simp;lia
 exact⟨rfl,rfl⟩
def zkC(N b:Nat):flats N ((crs b).map craD)=Γ:=zhM λd a=>by let⟨x,_,rfl⟩:=mem_map.mp a;exact zhN N x
def zjk{b m:Nat}(c:1<=b)(a:b<=5)(d:b+2<=m)(m7:m<=7):app (callF prog (n+4)) 8 [.int (m:Nat),.int (b:Nat)] S=.ok (.ref S.len) (S.push (.lst ((crs b).map craD))):=by refine zcc rfl rfl ?_;refine za2 ?_;refine zh3 (zoh rfl (zpQ (by lia) (by lia) (by lia) (by lia))) ?_;show W (Out.bind (evE (callF prog (n+3)) shE [Φ (.int (m:Nat)),Φ (.int (b:Nat))] S.enter) _) _;rw[zqC a _ rfl];exact zdk (by rw[R.enter_len];exact le_refl _) (zan _ _) (zkC _ _) ⟨rfl,rfl⟩
def zmu(h:Ty S d1)(g:gc 1 5 d1=Δ):appX (callF prog (n+4)) 8 [d0,d1] S=.err (.ref S.len) (S.push (.exc 0 [("told",d1)])):=by refine zk6 rfl rfl ?_;exact zmD (zjp rfl (zpt h.enter g))
def zmt(a:1<=b)(c:b<=5)(h:Ty S d0)(g:gc (b+2) 7 d0=Δ):appX (callF prog (n+4)) 8 [d0,.int b] S=.err (.ref S.len) (S.push (.exc 0 [("told",d0)])):=by refine zk6 rfl rfl ?_;exact zmD (zjp rfl (zps a c h.enter g))
def zoQ{T:R.St}{a b:Nat}{xs:List Bool}(c:T.get a=Φ (.lst (xs.map D.bl)))(d:T.get b=Φ (.lst (xs.map D.bl))):cmpO T .NotEq (.ref a) (.ref b)=Φ Δ:=by
 have p:∀{l:Nat},T.get l=Φ (.lst (xs.map D.bl))->R.pd T 60 (.ref l)=Φ (.list (xs.map .bool)):=λ{l} e=>by
  rw[R.pd];simp![e];have:(xs.map D.bl).mapM (R.pd T 59)=Φ (xs.map .bool):=by clear c d e;induction xs with|nil=>rfl|cons x xs f=>rw[Υ,Ϝ,f];rfl
  rw[this];rfl
 show(eqD T (.ref a) (.ref b)).map (!·)=_;simp![eqD,p c,p d,Ϛ,Option.map_some,zgC (p c)];rfl
structure Re(S:R.St)(d0 d1 v:D):Prop where
 t0:Ty S d0
 t1:Ty S d1
 th:Th S v
 g:(v=d1/\gc 1 5 d1=Δ)\/∃b,d1=.int b/\1<=b/\b<=5/\v=d0/\gc (b+2) 7 d0=Δ
def Re.er{v:D}(R:Re S d0 d1 v):appX (callF prog (n+4)) 8 [d0,d1] S=.err (.ref S.len) (S.push (.exc 0 [("told",v)])):=by rcases R.g with⟨rfl,g⟩|⟨b,rfl,a,c,rfl,g⟩;exact zmu R.t1 g;exact zmt a c R.t0 g
def Re.enter{v:D}(R:Re S d0 d1 v):Re S.enter d0 d1 v:=⟨R.t0.enter,R.t1.enter,R.th.mono (.enter S),R.g⟩
set_option maxHeartbeats 2000000 in
def zjl{v:D}(Y:Re S d0 d1 v):app (callF prog (n+5)) 18 [d0,d1,v] S=.ok (.bl Γ) S:=by
 refine zcc rfl rfl ?_;left;have c:=Y.enter.er (n:=n);refine zqb (zjp rfl c) (zan _ _) (wS_W _ ?_);have a:(S.enter.push (.exc 0 [("told",v)])).get S.enter.len=Φ (.exc 0 [("told",v)]):=zan _ _;generalize d:S.enter.push (.exc 0 [("told",v)])=B at a⊢;have f:Up S B:=λl o e=>by rw[<-d];exact zad (by rw[za6];exact e)
 have x:∀{T:R.St},Up B T->zc9 T (.ref S.enter.len)=Φ ((0:Nat),[(("told":PySem.Str),v)]):=λu=>zhR (u _ _ a);left;exists x (Up.refl _);left;exists x (Up.refl _);left;exists x (Up.refl _);left;right;left;exists x (Up.push _ _);left;exists x (Up.push _ _);left;right;left;exists zad (zan _ _);left;exists zan _ _;left;right;left;right;left;right;left;exists zan _ _;left;right;left;exists zoQ (xs:=[Δ,Δ,Δ,Δ,Δ]) (zad (zad (zan _ _))) (zan _ _);left;exists x (by repeat (first|exact Up.refl _|refine Up.trans ?_ (Up.push _ _)));left;exists x (by repeat (first|exact Up.refl _|refine Up.trans ?_ (Up.push _ _)));left;exists x (by repeat (first|exact Up.refl _|refine Up.trans ?_ (Up.push _ _)));left;exists rfl;left;specialize zoe (Y.th.mono (f.trans (by repeat (first|exact Up.refl _|refine Up.trans ?_ (Up.push _ _)))));left;exact zao rfl ⟨rfl,rfl⟩
end
def zh8{S T:R.St}{ds:List D}{Q:D->R.St->Prop}(h0:flat S.len (.tup ds)=Δ)(q:Q (.tup ds) ⟨S.frz,S.new++T.new,S.lk⟩):wFin S (.rt (.tup ds)) T Q:=by unfold wFin;rw[zhO];unfold zbm;simp![h0];exact q
def znm{l:List D}{z:Int}(h0:0<=z)(b:z<(l.length:Nat)):∃d∈l,atI l z=Φ d:=by
 have a:z.toNat<l.length:=by lia
 refine⟨l[z.toNat],List.getElem_mem a,?_⟩;have:=zdX (Η a)
 rwa [show((z.toNat:Nat):Int)=z by lia]at this
structure Sp(S T:R.St)(L:Nat)(e0 e1:D):Prop where
 mv:Mv [] S.enter T
 g:T.get L=Φ (.lst [e0,e1])
 fr:Fr T L
 nl:S.enter.len<=L
abbrev spQ(S:R.St)(d:D)(U:R.St):Prop:=Mv [] S U/\∃a L b c v,d=.tup [.bl a,.ref L,v]/\U.get L=Φ (.lst [b,c])/\(a=Γ->Re U b c v)
abbrev spC(k:Nat):CE:=.cmp .Eq (.bin .Mod (.loc k) U4) U1
abbrev spR:CS:=.ret (.tup #[.or (spC 2) (spC 3),J4,J5]) .nil
abbrev spL1:CE:=.lst #[.bin .Add J1 U1,U8,.bin .Sub U0 U1,.con (D.bl Γ),.con D.non,.con (D.str "7"),.lst #[U7]]
abbrev spL2:CE:=.lst #[U0,U6,.bin .Sub U0 U1,.con (D.bl Γ),.con D.non,.con (D.str "1"),.tup #[U1]]
abbrev spI(k:Nat):CE:=.bin .Mod (.bin .FloorDiv (.loc k) U4) U7
abbrev sp2:CS:=.ifS (spC 3) (.setIx J4 U1 (.ix spL2 (spI 3)) (.asg 5 (.ix J4 U1) .nil)) .nil spR
abbrev sp1:CS:=.ifS (spC 2) (.setIx J4 U0 (.ix spL1 (spI 2)) (.asg 5 (.ix J4 U0) .nil)) .nil sp2
def znM:c_law_spoiled.body=.asg 4 (.lst #[J0,J1]) (.asg 5 (.con D.non) sp1):=rfl
noncomputable abbrev E6(m b c k:Int)(L:Nat)(v:D):Ev:=[Φ (.int m),Φ (.int b),Φ (.int c),Φ (.int k),Φ (.ref L),Φ v]
section
variable{S T:R.St}{m b c k:Int}{L n:Nat}{e0 e1 v:D}{cf:CF}
def zmQ{a:Bool}(X:Sp S T L e0 e1)(f:(decide (c%4=1)||decide (k%4=1))=a)(h:a=Γ->Re T e0 e1 v):wS cf spR (E6 m b c k L v) T λr U=>wFin S r U (spQ S):=by
 have g:flat S.len (.tup [.bl a,.ref L,v])=Δ:=by have:=X.nl;rw[R.enter_len]at this;simp[flat];lia
 have d:wFin S (.rt (.tup [.bl a,.ref L,v])) T (spQ S):=by
  refine zh8 g ⟨zpb X.mv,a,L,e0,e1,v,rfl,by rw[zbZ X.mv.frz];exact X.g,λz=>?_⟩;have r:=h z;have u:Up T ⟨S.frz,S.new++T.new,S.lk⟩:=λl o e=>by rw[zbZ X.mv.frz];exact e
  exact⟨r.t0.mono u,r.t1.mono u,r.th.mono u,r.g⟩
 left;change by decide
 left;refine zc4 (λq=>?_) (λq=>?_);change by simp
 left;rw[show a=Γ by rw[<-f];simp[q]]at d;exact d;left;change by decide
 left;change by simp
 left;rw[show a=decide (k%4=1) by rw[<-f];simp[q]]at d;exact d
def zj2{S:R.St}{l j:Nat}{ds:List D}{i:Int}{v:D}(h:S.get l=Φ (.lst ds))(hf:Fr S l)(a:ixN ds.length i=Φ j):∃T,dPut S (.ref l) (.int i) v=Φ T/\Mv [l] S T/\T.get l=Φ (.lst (ds.set j v)):=by let⟨T,d,e,f⟩:=zbF hf h;refine⟨T,?_,e,f⟩;unfold dPut;dsimp only;rw[h];simp![zbz,Ϛ,a];exact d
def th_2{d:D}(h:d∈[D.int 0,.int 6,.int (0-1),.bl Γ,.non,.str "1",.tup [.int 1]]):Th T d/\gc 1 5 d=Δ:=by simp![mem_cons,not_mem_nil,or_false]at h;rcases h with rfl|rfl|rfl|rfl|rfl|rfl|rfl;exact⟨zdl,rfl⟩;exact⟨zdl,rfl⟩;exact⟨zdl,rfl⟩;exact⟨zqh,rfl⟩;exact⟨zmM,rfl⟩;exact⟨zmL (by decide +kernel),rfl⟩;exact⟨zqf,rfl⟩
def th_1{d:D}{q:Nat}(g:T.get q=Φ (.lst [.int 7]))(h:d∈[D.int (b+1),.int 8,.int (0-1),.bl Γ,.non,.str "7",.ref q])(a:1<=b):Th T d/\gc (b+2) 7 d=Δ:=by simp![mem_cons,not_mem_nil,or_false]at h;rcases h with rfl|rfl|rfl|rfl|rfl|rfl|rfl;exact⟨zdl,by simp![gc];lia⟩;exact⟨zdl,by simp![gc];lia⟩;exact⟨zdl,by simp![gc];lia⟩;exact⟨zqh,rfl⟩;exact⟨zmM,rfl⟩;exact⟨zmL (by decide +kernel),rfl⟩;exact⟨zqg (zs:=[7]) g,rfl⟩
def Sp.mono{U:R.St}(X:Sp S T L e0 e1)(u:Mv [] T U):Sp S U L e0 e1:=⟨X.mv.trans u,u.old _ _ (by simp) X.g,X.fr.mv u,X.nl⟩
def Sp.put{U:R.St}(X:Sp S T L e0 e1)(u:Mv [L] T U){a d:D}(g:U.get L=Φ (.lst [a,d])):Sp S U L a d:=⟨⟨u.frz.trans X.mv.frz,u.lk.trans X.mv.lk,le_trans X.mv.len u.len,λl o _ e=>u.old l o (by have:=zak e;have:=X.nl;simp;lia) (X.mv.old l o (by simp) e)⟩,g,X.fr.mv u,X.nl⟩
def sp_2(X:Sp S T L e0 (.int b))(p:∀U:R.St,(∀l o,l≠L->T.get l=Φ o->U.get l=Φ o)->Ty U e0)(s:c%4=1->Re T e0 (.int b) v):wS cf sp2 (E6 m b c k L v) T λr U=>wFin S r U (spQ S):=by
 left;change by decide
 refine zc4 (λq=>?_) (λq=>?_);left;right;left;right;left;change by decide
 left;change by decide
 left;exists zan _ _;left;let⟨d,t,u⟩:=znm (l:=[D.int 0,.int 6,.int (0-1),.bl Γ,.non,.str "1",.tup [.int 1]]) (emod_nonneg _ (by decide)) (Int.emod_lt_of_pos _ (by decide));exists u;left;have a:=X.mono (Mv.push [] T (.lst [D.int 0,.int 6,.int (0-1),.bl Γ,.non,.str "1",.tup [.int 1]]));let⟨U,w,g,h⟩:=zj2 (i:=1) a.g a.fr rfl;exists w;left;exists h;left;exists zg0;left;have x:=a.put g h;have f:=th_2 (T:=U) t;exact zmQ x rfl λ_=>⟨p U λl o y e=>g.old l o (by simpa using y) (zad e),f.1.ty,f.1,.inl ⟨rfl,f.2⟩⟩;left;exact zmQ X rfl λz=>s (by simpa[q]using z)
def sp_1(X:Sp S T L (.int m) (.int b))(a:1<=b)(t:b<=5):wS cf sp1 (E6 m b c k L .non) T λr U=>wFin S r U (spQ S):=by
 left;change by decide
 refine zc4 (λq=>?_) (λq=>?_);left;right;left;right;left;change by decide
 left;change by decide
 left;exists zan _ _;left;let⟨d,g,u⟩:=znm (l:=[D.int (b+1),.int 8,.int (0-1),.bl Γ,.non,.str "7",.ref T.len]) (z:=c/4%7) (emod_nonneg _ (by decide)) (Int.emod_lt_of_pos _ (by decide));exists u;left;have e:=X.mono ((Mv.push [] T (.lst [.int 7])).trans (Mv.push [] _ (.lst [D.int (b+1),.int 8,.int (0-1),.bl Γ,.non,.str "7",.ref T.len])));let⟨U,w,h,o⟩:=zj2 (i:=0) e.g e.fr rfl;exists w;left;exists o;left;exists zmE;left;have x:=e.put h o;have p:T.len≠L:=by have:=zak X.g;lia
 have s:=h.old _ _ (by simpa using p) (zad (zan T (.lst [.int 7])));have f:=th_1 s g a;exact sp_2 x (λV y=>(th_1 (y _ _ p s) g a).1.ty) λ_=>⟨f.1.ty,trivial,f.1,.inr ⟨b,rfl,a,t,rfl,f.2⟩⟩;left;exact sp_2 X (λ_ _=>trivial) λz=>absurd z q
def zjj(a:1<=b)(d:b<=5):W (app (callF prog (n+1)) 19 [.int m,.int b,.int c,.int k] S) (spQ S):=by refine zsL rfl rfl ?_;right;left;exact sp_1 ⟨Mv.push [] S.enter (.lst [.int m,.int b]),zan _ _,zdh (λl e=>by cases e) (Mv.push [] _ _) (le_refl _),le_refl _⟩ a d
end
section
variable{S:R.St}{n a hl lt m i:Nat}{r:Int}{ps:List Pt}{p:Pt}{h:Hn}
def zrS(P:Py S a hl lt m r ps)(b:ps[i]?=Φ p):appW (callF prog (n+4)) 35 [.ref a,.int (i:Nat)] S=.ok (.ref p.a) S:=by
 have c:i<m:=by rw[<-P.l];exact(Α.mp b).1
 have g:gh (m:Nat) (.int (i:Nat))=Γ:=by simp[gh];omega
 refine znp rfl rfl (zjq (δ:=[Φ (.ref a),Φ (.int (i:Nat))]) ?_);rw[x_at P zdl,g];unfold ixX;unfold zbe;dsimp only;rw[P.h];dsimp only;rw[zdX (by rw[getElem?_map,b];rfl)];rfl
def ztJ(P:Py S a hl lt m r ps)(c:ps[i]?=Φ p)(b:P1 S m r i p h):appW (callF prog (n+5)) 34 [.ref a,.int (i:Nat)] S=.ok (eD h.en) S:=by refine znp rfl rfl (zjq (δ:=[Φ (.ref a),Φ (.int (i:Nat))]) ?_);show Out.bind _ _=_;rw[zs1 P,zrS P c,zaj];unfold mthX;rw[zaI b.a];show(appW (callF prog (n+4)) 24 [.ref p.a] S).ne=_;rw[zo0 b.a];rfl
def zhb{x:Int}:app (callF prog (n+1)) 20 [.int x] S=.ok (.bl Γ) S:=by refine zcc rfl rfl ?_;left;exists rfl;left;exists rfl;left;exact zao rfl ⟨rfl,rfl⟩
def zjm{x y:Int}:app (callF prog (n+2)) 21 [.tup [.int x,.int y]] S=.ok (.bl Γ) S:=by refine zcc rfl rfl ?_;left;exists rfl;left;exists zmE;left;specialize zhb;left;exists zg0;left;specialize zhb;left;exact zao rfl ⟨rfl,rfl⟩
end
abbrev wdZ(ns:List Int)(low:Int)(k:Nat):Int:=low+1+zbb ns (3+k)%(if k%2=0 then 10^6 else 10^59)
abbrev wdL(ns:List Int)(low:Int):Nat->Nat->List Int
 |_,0=>[]|t,c+1=>wdZ ns low t::wdL ns low (t+1) c
abbrev wdE:CE:=.bin .Add (.bin .Add J6 U1) (.bin .Mod (.call 16 0 #[J0,.bin .Add U3 J8]) (.ix (.lst #[.bin .Pow U10 U6,.bin .Pow U10 U59]) (.bin .Mod J8 U2)))
abbrev wdB:CS:=.expr (.mt .append J7 #[wdE]) .nil
noncomputable abbrev Ez(ns:List Int)(b m:Nat)(g h i:Option D)(low:Int)(j:Nat)(k l a c d e f:Option D):Ev:=[Φ (.fix (ns.map .int)),Φ (.int (b:Nat)),Φ (.int (m:Nat)),g,h,i,Φ (.int low),Φ (.ref j),k,l,a,c,d,e,f]
section
variable{ns:List Int}{b m wl n:Nat}{low:Int}{x3 x4 x5 x9 x10 x11 x12 x13 x14:Option D}
def zpV{T:R.St}{a:List Int}{t:Nat}(g:T.get wl=Φ (.lst (a.map .int)))(hf:Fr T wl)(l:a.length<=100):W (exS (callF prog (n+1)) wdB (Ez ns b m x3 x4 x5 low wl (Φ (.int (t:Nat))) x9 x10 x11 x12 x13 x14) T) λf U=>f=.nx (Ez ns b m x3 x4 x5 low wl (Φ (.int (t:Nat))) x9 x10 x11 x12 x13 x14)/\U.get wl=Φ (.lst ((a++[wdZ ns low t]).map .int))/\Mv [wl] T U:=by
 refine wS_W _ ?_;left;exists g;left;specialize zog (by lia);left;change by decide
 left;change by decide
 left;right;left;change by decide
 left;exists zan _ _;left;obtain⟨v,c,d⟩:∃v:Int,(v=if t%2=0 then 10^6 else 10^59)/\atI [D.int (10^6),.int (10^59)] ((t:Nat)%2:Int)=Φ (.int v):=by rcases Nat.mod_two_eq_zero_or_one t with h|h;exact⟨10^6,by rw[if_pos h],by rw[show((t:Nat):Int)%2=0 by lia];exact zmE⟩;exact⟨10^59,by rw[if_neg (by lia)],by rw[show((t:Nat):Int)%2=1 by lia];exact zg0⟩
 exists d;left;change by rw[c];split<;>decide
 left;exists zad g;left;right;left;let⟨U,e,i,j⟩:=zbF (hf.mv (Mv.push [] T _)) (zad g);exists e;left;refine⟨rfl,?_,(Mv.push [wl] T _).trans i⟩;rw[j,map_append];unfold wdZ;rw[<-c];rfl
def ziN:∀(c t:Nat)(a:List Int)(T:R.St)(o:Option D),T.get wl=Φ (.lst (a.map .int))->Fr T wl->a.length+c<=100->W (zaM [8] (exS (callF prog (n+1)) wdB) (zeF t c) (Ez ns b m x3 x4 x5 low wl o x9 x10 x11 x12 x13 x14) T) λf U=>(∃o,f=.nx (Ez ns b m x3 x4 x5 low wl o x9 x10 x11 x12 x13 x14))/\U.get wl=Φ (.lst ((a++wdL ns low t c).map .int))/\Mv [wl] T U
 |0,t,a,T,o,g,d,h=>by show W (Out.ok (Fl.nx _) T) _;exact⟨⟨o,rfl⟩,by rw[g];simp[wdL],Mv.refl _ _⟩| c+1,t,a,T,o,g,d,h=>by show W (Out.bind (exS (callF prog (n+1)) wdB (Ez ns b m x3 x4 x5 low wl (Φ (.int (t:Nat))) x9 x10 x11 x12 x13 x14) T) _) _;rw[zab];refine(zpV g d (by lia)).mono λf U i=>?_;let⟨rfl,j,e⟩:=i;refine(ziN c (t+1) (a++[wdZ ns low t]) U _ j (d.mv e) (by simp;lia)).mono λf V k=>?_;let⟨l,p,q⟩:=k;exact⟨l,by rw[p,append_assoc];rfl,e.trans q⟩
end
def ziO(ns:List Int)(low:Int):∀(c t:Nat),(wdL ns low t c).length=c
 |0,_=>rfl|c+1,t=>by rw[wdL,ϊ,ziO ns low c (t+1)]
def zpW(ns:List Int)(low:Int)(k:Nat):low<wdZ ns low k/\wdZ ns low k<=low+10^59:=by unfold wdZ;split;lia;lia
def zeB(ns:List Int)(low:Int):∀(c t:Nat),∀w∈wdL ns low t c,low<w/\w<=low+10^59
 |0,t,w,h=>by simp[wdL]at h| c+1,t,w,h=>by rcases mem_cons.mp h with rfl|h;exact zpW ns low t;exact zeB ns low c (t+1) w h
def zs4(ns:List Int)(low:Int)(m:Nat)(a:1<=m):Lo (low::wdL ns low 1 (m-1)) m low:=by
 refine⟨by rw[ϊ,ziO];lia,λi w e=>?_,λw h=>?_⟩;cases i with|zero=>cases e;simp| succ i=>have:=zeB ns low (m-1) 1 w (mem_of_getElem? (by simpa using e));lia
 rcases mem_cons.mp h with rfl|h;exact Int.le_refl _;exact Int.le_of_lt (zeB ns low _ _ w h).1
def mem_crs{b:Nat}{x:Cra}:x∈crs b↔∃i,i<b/\x=(i,((i:Nat):Int)+1,[((i:Nat):Int)+1]):=by unfold crs;rw[mem_map];exact⟨λk=>(by let⟨i,h,e⟩:=k;exact ⟨i,mem_range.mp h,e.symm⟩),λz=>(by let⟨i,h,e⟩:=z;exact ⟨i,mem_range.mpr h,e.symm⟩)⟩
def zsu(b:Nat):((crs b).map (·.1)).Nodup:=by unfold crs;rw[ϒ];show((List.range b).map λi=>i).Nodup;rw[List.map_id'];exact List.nodup_range
def zst{b m:Nat}(c:b<m)(d:b<=5):∀x∈crs b,VC (m:Nat) x:=λx a=>by let⟨i,e,rfl⟩:=mem_crs.mp a;exact⟨by lia,by lia,by lia,by simp;lia,by simp⟩
def Pl.la{S U:R.St}{m c a b:Nat}{r:Int}{ws:List Int}{d:List Pt}(P:Pl S U m r c a ws (crs b) d):La d b m:=by refine⟨P.lp,λi p e h=>?_,λi p e h=>P.cn i p e λx f=>?_⟩;exact P.cy i p e _ (mem_crs.mpr ⟨i,h,rfl⟩) rfl;let⟨j,g,rfl⟩:=mem_crs.mp f;lia
abbrev Ask(S:R.St)(a m b:Nat)(Q:Nat->Int->Int->Prop):Prop:=∃d e r c,Py S a d e m r c/\∀(i:Nat) p,c[i]?=Φ p->b<=i->∃h x y,P1 S m r i p h/\h.en=Φ (x,y)/\Q i x y
def Ask.up{S T:R.St}{a m b:Nat}{Q:Nat->Int->Int->Prop}(A:Ask S a m b Q)(u:Up S T):Ask T a m b Q:=by let⟨c,d,r,f,P,h⟩:=A;exact⟨c,d,r,f,P.up u,λi p e bi=>let ⟨g,x,y,j,k⟩:=h i p e bi;⟨g,x,y,j.up u,k⟩⟩
def Ask.get{S:R.St}{a m b i n:Nat}{Q:Nat->Int->Int->Prop}(A:Ask S a m b Q)(bi:b<=i)(d:i<m):∃x y,Q i x y/\appW (callF prog (n+5)) 34 [.ref a,.int (i:Nat)] S=.ok (.tup [.int x,.int y]) S:=by let⟨l,o,r,e,P,h⟩:=A;obtain⟨p,c⟩:∃p,e[i]?=Φ p:=⟨_,Η (by rw[P.l];exact d)⟩;let⟨g,x,y,f,j,k⟩:=h i p c bi;refine⟨x,y,k,?_⟩;rw[ztJ P c f,j];rfl
def Ask.ins{S:R.St}{a m b:Nat}{Q:Nat->Int->Int->Prop}(A:Ask S a m b Q):∃c,zbo S (.ref a)=Φ (2,c)/\(c.lookup ("ended":PySem.Str)).isNone=Γ:=by let⟨d,e,r,f,P,_⟩:=A;exact⟨_,zaI P.p,rfl⟩
section
variable{S U:R.St}{m b a:Nat}{low:Int}{ws:List Int}{ps:List Pt}
def Pl.ask1(P:Pl S U m ((b:Nat):Int) b a ws (crs b) ps)(O:Lo ws m low)(d:1<=b)(f:b<m)(m7:m<=7):Ask U a m b λi x y=>x=(b:Int)/\y∈ws/\(y=low↔i=b):=by let⟨h,j,Y,_⟩:=P.py O.l m7 (by lia);refine⟨h,j,_,ps,Y,λi p e bi=>?_⟩;obtain⟨g,c⟩:∃g,(rnds m ((b:Nat):Int) ps 1 b (h0 ws))[i]?=Φ g:=⟨_,Η (by rw[P.lr,<-P.lp];exact(Α.mp e).1)⟩;let⟨v,k,l,n⟩:=zt9 P.la O d f m7 bi c;exact⟨g,_,v,P.p1 i p g e c,k,rfl,l,n⟩
def Pl.ask2(P:Pl S U m ((b+1:Nat):Int) (b+1) a ws (crs b) ps)(O:Lo ws m low)(d:1<=b)(f:b<m)(m7:m<=7):Ask U a m b λ_ _ y=>y=low:=by let⟨h,j,Y,_⟩:=P.py O.l m7 (by lia);refine⟨h,j,_,ps,Y,λi p e bi=>?_⟩;obtain⟨g,c⟩:∃g,(rnds m ((b+1:Nat):Int) ps 1 (b+1) (h0 ws))[i]?=Φ g:=⟨_,Η (by rw[P.lr,<-P.lp];exact(Α.mp e).1)⟩;let⟨v,k⟩:=zt8 P.la O d f m7 bi (by exact c);exact⟨g,v,low,P.p1 i p g e c,k,rfl⟩
end
structure Bd(T:R.St)(wl cl m b:Nat)(low:Int)(ws:List Int):Prop where
 gw:T.get wl=Φ (.lst (ws.map D.int))
 gc:T.get cl=Φ (.lst ((crs b).map craD))
 lo:Lo ws m low
 wb:∀w∈ws,Kz.gw (.int w)=Γ
 b1:1<=b
 b5:b<=5
 bm:b+2<=m
 m7:m<=7
 lk:T.lk=[]
def Bd.mv{T U:R.St}{a cl m b:Nat}{low:Int}{ws:List Int}(B:Bd T a cl m b low ws)(v:Mv [] T U):Bd U a cl m b low ws:={B with gw:=Up.mv v _ _ B.gw,gc:=Up.mv v _ _ B.gc,lk:=v.lk.trans B.lk}
def Bd.init{T:R.St}{f cl m b n c:Nat}{low:Int}{ws:List Int}{rd:D}(B:Bd T f cl m b low ws)(i:gr rd=Γ)(j:Ty (T.push (.ins 2 [])) rd)(hz:rnB (b:Nat) rd=(c:Nat))(c8:c<=8) :
  W (appW (callF prog (n+8)) 33 [.ref T.len,.int (m:Nat),.int (b:Nat),.ref f,.ref cl,rd] (T.push (.ins 2 []))) λd U=>d=.non/\Mv [] T U/\∃h,Pl (T.push (.ins 2 [])) U m (c:Nat) c T.len ws (crs b) h:=by
 have v:=Mv.push [] T (.ins 2 []);have r:=B.bm;have k:=B.b5;have G:Gd (T.push (.ins 2 [])) f m c (b:Nat) ws (crs b) (.ref cl) rd:=⟨zad B.gw,B.lo.l,by lia,B.m7,by lia,by lia,B.wb,by unfold crs;simp;lia,.inr ⟨cl,rfl,zad B.gc⟩,j,i,c8,hz,zst (by lia) k,zsu b⟩;have p:∀l∈T.lk,l<T.len:=λl a=>by rw[B.lk]at a;cases a
 refine(G.init (zan T _) (zdh p v (le_refl _)) (by rw[v.lk,B.lk];exact λl a=>by cases a)).mono λd U q=>?_;let⟨rfl,h,P⟩:=q;let⟨a,s,g,_⟩:=P.at_;exact⟨rfl,⟨P.frz,P.lk,le_of_lt (zak g),λl o _ e=>P.old l o (by have:=zak e;lia) (zad e)⟩,h,P⟩
def zrx{T:R.St}{b:Nat}:∃xs,((crs b).map craD).mapM (R.pd T 59)=Φ xs:=by unfold crs;rw[ϒ];induction List.range b with|nil=>exact⟨[],rfl⟩| cons i l a=>let⟨xs,e⟩:=a;rw[Υ,Ϝ,e];exact⟨_,rfl⟩
def znh{T:R.St}{a c b:Nat}(d:T.get a=Φ (.lst ((crs b).map craD)))(f:T.get c=Φ (.lst ((crs b).map craD))):eqD T (.ref a) (.ref c)=Φ Γ:=by
 let⟨g,h⟩:=zrx;have p:∀{l:Nat},T.get l=Φ (.lst ((crs b).map craD))->R.pd T 60 (.ref l)=Φ (.list g):=λ{l} e=>by rw[R.pd];simp![e];rw[h];rfl
 simp![eqD,p d,p f,Ϛ,Option.map_some,zgC (p d)]
@[irreducible]noncomputable def lw14:CS:=.asg 14 (.mkL (.val J9)) (.expr (.mt .append J9 #[.ix J9 U0]) (.ret (.cmp .Eq (.call 8 0 #[J2,J1]) J14) .nil))
section
variable{ns ws:List Int}{b m wl cl n a1 a2:Nat}{low:Int}{k x3 x4 x5 x12 x13 x14:Option D}{T:R.St}
def ztK(B:Bd T wl cl m b low ws)(a:Fr T cl):W (exS (callF prog (n+4)) lw14 (Ez ns b m x3 x4 x5 low wl k (Φ (.ref cl)) (Φ (.ref a1)) (Φ (.ref a2)) x12 x13 x14) T) λf _=>f=.rt (.bl Γ):=by
 unfold lw14;have h:((crs b).map craD).length<=5:=by unfold crs;simp;exact B.b5
 obtain⟨d,c⟩:∃d,((crs b).map craD)[0]?=Φ d:=⟨_,Η (by unfold crs;simp;exact B.b1)⟩;refine wS_W _ ?_;left;exists B.gc;left;change by lia
 left;exists zad B.gc;left;exists zad B.gc;left;exists zdX c;left;exists zad B.gc;left;change by rw[length_append];show((crs b).map craD).length+1<=16777216;lia
 left;let⟨U,e,g,i⟩:=zbF (a.mv (Mv.push [] T (.lst ((crs b).map craD)))) (zad B.gc);exists e;left;specialize zjk B.b1 B.b5 B.bm B.m7;left;exists znh (zan _ _) (zad (g.old _ _ (by have:=zak B.gc;simp;lia) (zan T _)));exact rfl
def zoO{T:R.St}{l:Nat}{y:Int}{ws:List Int}(g:T.get l=Φ (.lst (ws.map D.int)))(h:y∈ws):cmpO T .NotIn (.int y) (.ref l)=Φ Δ:=by show(((zbe T (.ref l)).bind λa=>inD T (.int y) a).map (!·))=_;rw[show zbe T (.ref l)=Φ (ws.map D.int) by unfold zbe;dsimp only;rw[g],Ϛ,ze4];simp[h]
abbrev lwE(k:Nat):XE:=.meth "ended" [(0,24),(2,34)] (.loc k) #[J12]
abbrev lwI1:CE:=.or (.nt (.tst (.call 21 0 #[J13]))) (.or (.cmp .NotIn (.ix J13 U1) J7) (.and (.cmp .Gt J12 J1) (.cmp .Eq (.ix J13 U1) J6)))
abbrev lwI2:CE:=.or (.nt (.tst (.call 21 0 #[J13]))) (.cmp .NotEq (.ix J13 U1) J6)
@[irreducible]noncomputable def lwB:CS:=.blk (.asgX 13 (lwE 10)) (.ifS lwI1 (.ret (.con (D.bl Δ)) .nil) .nil (.blk (.asgX 13 (lwE 11)) (.ifS lwI2 (.ret (.con (D.bl Δ)) .nil) .nil .nil)))
noncomputable abbrev A1(T:R.St)(a m b:Nat)(low:Int)(ws:List Int):Prop:=Ask T a m b λi x y=>x=(b:Int)/\y∈ws/\(y=low↔i=b)
noncomputable abbrev A2(T:R.St)(a m b:Nat)(low:Int):Prop:=Ask T a m b λ_ _ y=>y=low
def zpP{Q:Nat->Int->Int->Prop}{j i a:Nat}{δ:Ev}(A:Ask T a m b Q)(bi:b<=i)(f:i<m)(g:(δ[j]?).join=Φ (.ref a))(l:(δ[12]?).join=Φ (.int (i:Nat))):∃x y,Q i x y/\exT (callF prog (n+5)) (.asgX 13 (lwE j)) δ T=.ok (δ.set 13 (Φ (.tup [.int x,.int y]))) T:=by
 let⟨x,y,q,e⟩:=A.get bi f;let⟨t,o,p⟩:=A.ins;refine⟨x,y,q,?_⟩;have c:∀{k:Nat}{d:D},(δ[k]?).join=Φ d->evE (callF prog (n+5)) (.loc k) δ T=.ok d T:=λ{k d} h=>by show lift T (δ[k]?).join=_;rw[h];rfl
 have r:evEs (callF prog (n+5)) #[J12] δ T=.ok [.int (i:Nat)] T:=by rw[evEs,c l];rfl
 have s:exX (callF prog (n+5)) (lwE j) δ T=.ok (.tup [.int x,.int y]) T:=by (conv=>lhs;whnf);rw[c g];show mthX "ended" [(0,24),(2,34)] (.ref a) T _=_;unfold mthX;rw[o];dsimp only;rw[show List.lookup 2 [(0,24),(2,34)]=Φ 34 from rfl];dsimp only;rw[if_pos p,r];exact e
 show Out.bind (exX (callF prog (n+5)) (lwE j) δ T) _=_;rw[s];rfl
def zo3{i:Nat}(gw:T.get wl=Φ (.lst (ws.map D.int)))(P:A1 T a1 m b low ws)(L:A2 T a2 m b low)(bi:b<=i)(a:i<m):W (exS (callF prog (n+5)) lwB (Ez ns b m x3 x4 x5 low wl k (Φ (.ref cl)) (Φ (.ref a1)) (Φ (.ref a2)) (Φ (.int (i:Nat))) x13 x14) T) λf U=>(∃x13,f=.nx (Ez ns b m x3 x4 x5 low wl k (Φ (.ref cl)) (Φ (.ref a1)) (Φ (.ref a2)) (Φ (.int (i:Nat))) x13 x14))/\U=T:=by
 unfold lwB;let⟨x,y,⟨o,d,g⟩,e⟩:=zpP (j:=10) (δ:=Ez ns b m x3 x4 x5 low wl k (Φ (.ref cl)) (Φ (.ref a1)) (Φ (.ref a2)) (Φ (.int (i:Nat))) x13 x14) P bi a rfl rfl;refine zh3 e ?_;refine zcz (wT_W _ ?_);left;specialize zjm;left;exists zg0;left;exists zoO gw d;left;have fin:W (exS (callF prog (n+5)) (.blk (.asgX 13 (lwE 11)) (.ifS lwI2 (.ret (.con (D.bl Δ)) .nil) .nil .nil)) (Ez ns b m x3 x4 x5 low wl k (Φ (.ref cl)) (Φ (.ref a1)) (Φ (.ref a2)) (Φ (.int (i:Nat))) (Φ (.tup [.int x,.int y])) x14) T) λf U=>(∃x13,f=.nx (Ez ns b m x3 x4 x5 low wl k (Φ (.ref cl)) (Φ (.ref a1)) (Φ (.ref a2)) (Φ (.int (i:Nat))) x13 x14))/\U=T:=by let⟨p,q,h,l⟩:=zpP (j:=11) (δ:=Ez ns b m x3 x4 x5 low wl k (Φ (.ref cl)) (Φ (.ref a1)) (Φ (.ref a2)) (Φ (.int (i:Nat))) (Φ (.tup [.int x,.int y])) x14) L bi a rfl rfl;refine zh3 l ?_;refine zcz (wT_W _ ?_);left;specialize zjm;left;exists zg0;left;refine⟨by rw[h];simp,?_⟩;show W (Out.ok (Fl.nx _) T) _;exact⟨⟨_,rfl⟩,rfl⟩
 refine zc4 (λc=>?_) (λc=>?_);exists zg0;left;have c:b<i:=by simpa using c
 refine⟨?_,fin⟩;lia;exact⟨rfl,fin⟩
def zo4(gw:T.get wl=Φ (.lst (ws.map D.int)))(P:A1 T a1 m b low ws)(L:A2 T a2 m b low)(c i:Nat)(x12 x13:Option D)(bi:b<=i)(e:i+c<=m):W (zaM [12] (exS (callF prog (n+5)) lwB) (zeF i c) (Ez ns b m x3 x4 x5 low wl k (Φ (.ref cl)) (Φ (.ref a1)) (Φ (.ref a2)) x12 x13 x14) T) λf U=>(∃x12 x13,f=.nx (Ez ns b m x3 x4 x5 low wl k (Φ (.ref cl)) (Φ (.ref a1)) (Φ (.ref a2)) x12 x13 x14))/\U=T:=by induction c generalizing i x12 x13 with| zero=>show W (Out.ok (Fl.nx _) T) _;exact⟨⟨_,_,rfl⟩,rfl⟩| succ c a=>show W (Out.bind (exS (callF prog (n+5)) lwB (Ez ns b m x3 x4 x5 low wl k (Φ (.ref cl)) (Φ (.ref a1)) (Φ (.ref a2)) (Φ (.int (i:Nat))) x13 x14) T) _) _;rw[zab];refine(zo3 gw P L bi (by lia)).mono λf U d=>?_;let⟨⟨y,rfl⟩,rfl⟩:=d;exact a (i+1) _ _ (by lia) (by lia)
def zq1{cf:CF}{δ:Ev}(c:(δ[1]?).join=Φ (.int (b:Nat)))(e:(δ[2]?).join=Φ (.int (m:Nat)))(f:b<=m)(m7:m<=7):evL cf (.rng2 J1 J2) δ T=.ok (zeF b (m-b),[]) T:=by
 have a:∀{k:Nat}{d:D},(δ[k]?).join=Φ d->evE cf (.loc k) δ T=.ok d T:=λ{k d} h=>by show lift T (δ[k]?).join=_;rw[h];rfl
 show Out.bind _ _=_;rw[a c,zaj,a e,zaj];dsimp only;rw[if_pos (by lia),show((m:Nat)-(b:Nat):Int).toNat=m-b by lia,zcl]
@[irreducible]noncomputable def lw13:CS:=.forS [12] (.rng2 J1 J2) lwB lw14
def ztL(B:Bd T wl cl m b low ws)(c:Fr T cl)(P:A1 T a1 m b low ws)(L:A2 T a2 m b low):W (exS (callF prog (n+5)) lw13 (Ez ns b m x3 x4 x5 low wl k (Φ (.ref cl)) (Φ (.ref a1)) (Φ (.ref a2)) x12 x13 x14) T) λf _=>f=.rt (.bl Γ):=by unfold lw13;have h:=B.bm;have d:=B.m7;have a:=zq1 (T:=T) (cf:=callF prog (n+5)) (δ:=Ez ns b m x3 x4 x5 low wl k (Φ (.ref cl)) (Φ (.ref a1)) (Φ (.ref a2)) x12 x13 x14) rfl rfl (by lia) d;generalize e:Ez ns b m x3 x4 x5 low wl k (Φ (.ref cl)) (Φ (.ref a1)) (Φ (.ref a2)) x12 x13 x14=δ at a⊢;refine zb0 a ?_;subst e;refine(zo4 B.gw P L (m-b) b _ _ (le_refl _) (by lia)).mono λf U g=>?_;let⟨⟨y,z,rfl⟩,rfl⟩:=g;exact ztK B c
abbrev lwM(k:Nat):CE:=.meth "ended" [(0,24),(2,34)] (.loc k) #[J1]
abbrev lwI3:CE:=.or (.nt (.tst (.call 21 0 #[lwM 10]))) (.cmp .NotEq (lwM 10) (.tup #[J1,J6]))
@[irreducible]noncomputable def lw12:CS:=.ifS lwI3 (.ret (.con (D.bl Δ)) .nil) .nil lw13
def zrM{T:R.St}(x y:Int):cmpO T .NotEq (.tup [.int x,.int y]) (.tup [.int x,.int y])=Φ Δ:=by show(eqD T (pD [x,y]) (pD [x,y])).map (!·)=_;have:=zsp T [x,y] [x,y];rw[show eqD T (pD [x,y]) (pD [x,y])=_ from this];simp
def ztM(B:Bd T wl cl m b low ws)(d:Fr T cl)(P:A1 T a1 m b low ws)(L:A2 T a2 m b low):W (exS (callF prog (n+5)) lw12 (Ez ns b m x3 x4 x5 low wl k (Φ (.ref cl)) (Φ (.ref a1)) (Φ (.ref a2)) x12 x13 x14) T) λf _=>f=.rt (.bl Γ):=by unfold lw12;have i:=B.bm;let⟨x,y,⟨rfl,j,g⟩,e⟩:=P.get (le_refl _) (by lia);rw[g.mpr rfl]at e;let⟨l,a,c⟩:=P.ins;generalize h:Ez ns b m x3 x4 x5 low wl k (Φ (.ref cl)) (Φ (.ref a1)) (Φ (.ref a2)) x12 x13 x14=o;refine zcz (wT_W _ ?_);subst h;left;exists a;left;exists rfl;left;change c;left;specialize e;left;specialize zjm;left;exists a;left;exists rfl;left;change c;left;specialize e;left;right;left;exists zrM _ _;exact⟨rfl,ztL B d P L⟩
abbrev lwP(j:Nat)(es:CEs):CE:=.mk 2 33 "Floods" j (.cons J2 (.cons J1 (.cons (.mkL (.val J7)) (.cons (.mkL (.val J9)) es))))
@[irreducible]noncomputable def lw11:CS:=.asg 11 (lwP 1 .nil) lw12
@[irreducible]noncomputable def lw10:CS:=.asg 10 (lwP 0 #[J1]) lw11
def Bd.copy(B:Bd T wl cl m b low ws):Bd ((T.push (.lst (ws.map D.int))).push (.lst ((crs b).map craD))) T.len (T.push (.lst (ws.map D.int))).len m b low ws:={B with gw:=zad (zan _ _),gc:=zan _ _,lk:=B.lk}
def ztN(B:Bd T wl cl m b low ws)(g:Fr T cl)(P:A1 T a1 m b low ws):W (exS (callF prog (n+8)) lw11 (Ez ns b m x3 x4 x5 low wl k (Φ (.ref cl)) (Φ (.ref a1)) Ψ x12 x13 x14) T) λf _=>f=.rt (.bl Γ):=by
 unfold lw11;have i:=B.bm;have e:=B.m7;have l:(ws.map D.int).length<=7:=by rw[length_map,B.lo.l];exact e
 have o:((crs b).map craD).length<=5:=by unfold crs;simp;exact B.b5
 refine zdY (wE_W _ ?_);left;exists B.gw;left;change by lia
 left;exists zad B.gc;left;change by lia
 left;refine za2 ((B.copy.init (rd:=.non) rfl trivial rfl (by lia)).mono λd U h=>?_);let⟨rfl,v,p,Q⟩:=h;change rfl;have a:=((Mv.push [] T _).trans (Mv.push [] _ _)).trans v;exact ztM (B.mv a) (g.mv a) (P.up (Up.mv a)) (Q.ask2 B.lo B.b1 (by lia) e)
def ztO(B:Bd T wl cl m b low ws)(g:Fr T cl):W (exS (callF prog (n+8)) lw10 (Ez ns b m x3 x4 x5 low wl k (Φ (.ref cl)) Ψ Ψ x12 x13 x14) T) λf _=>f=.rt (.bl Γ):=by
 unfold lw10;have i:=B.bm;have l:=B.b1;have a:=B.m7;have o:(ws.map D.int).length<=7:=by rw[length_map,B.lo.l];exact a
 have p:((crs b).map craD).length<=5:=by unfold crs;simp;exact B.b5
 refine zdY (wE_W _ ?_);left;exists B.gw;left;change by lia
 left;exists zad B.gc;left;change by lia
 left;refine za2 ((B.copy.init (rd:=.int (b:Nat)) (by simp[gr,gc];lia) trivial rfl (by lia)).mono λd U h=>?_);let⟨rfl,v,q,Q⟩:=h;change rfl;have e:=((Mv.push [] T _).trans (Mv.push [] _ _)).trans v;exact ztN (B.mv e) (g.mv e) (Q.ask1 B.lo B.b1 (by lia) a)
end
section
variable{ns ws:List Int}{b m wl cl n:Nat}{low:Int}{k x3 x4 x5 x9 x12 x13 x14:Option D}{T:R.St}
def zc3{cf:CF}{δ:Ev}{k:Nat}{d:D}(h:(δ[k]?).join=Φ d):evE cf (.loc k) δ T=.ok d T:=by show lift T (δ[k]?).join=_;rw[h];rfl
abbrev lwI9:CE:=.or (.cmp .NotEq J9 shE) (.nt (.tst (.bi (.isin "list") #[J9])))
@[irreducible]noncomputable def lw9:CS:=.ifS lwI9 (.ret (.con (D.bl Δ)) .nil) .nil lw10
def ev_9{cf:CF}{δ:Ev}(c:(δ[1]?).join=Φ (.int (b:Nat)))(a:(δ[9]?).join=Φ (.ref cl))(g:T.get cl=Φ (.lst ((crs b).map craD)))(e:b<=5):evT cf lwI9 δ T=.ok Δ (T.push (.lst ((crs b).map craD))):=by
 have f:evT cf (.cmp .NotEq J9 shE) δ T=.ok Δ (T.push (.lst ((crs b).map craD))):=by show Out.bind _ _=_;rw[zc3 a,zaj,zqC e δ c];show lift _ ((eqD (T.push (.lst ((crs b).map craD))) (.ref cl) (.ref T.len)).map (!·))=_;rw[znh (zad g) (zan _ _)];rfl
 have h:evT cf (.nt (.tst (.bi (.isin "list") #[J9]))) δ (T.push (.lst ((crs b).map craD)))=.ok Δ (T.push (.lst ((crs b).map craD))):=by
  refine W.eq (wT_W _ ?_);show(match (δ[9]?).join with|some d=>_|none=>False);rw[a];exists show tyOf (T.push (.lst ((crs b).map craD))) (.ref cl)=Φ "list" by unfold tyOf;dsimp only;rw[zad g]
  exact⟨rfl,rfl⟩
 show Out.bind _ _=_;rw[f];exact h
def lw_9(B:Bd T wl cl m b low ws)(c:Fr T cl):W (exS (callF prog (n+8)) lw9 (Ez ns b m x3 x4 x5 low wl k (Φ (.ref cl)) Ψ Ψ x12 x13 x14) T) λf _=>f=.rt (.bl Γ):=by unfold lw9;have a:=ev_9 (cf:=callF prog (n+8)) (δ:=Ez ns b m x3 x4 x5 low wl k (Φ (.ref cl)) Ψ Ψ x12 x13 x14) rfl rfl B.gc B.b5;generalize d:Ez ns b m x3 x4 x5 low wl k (Φ (.ref cl)) Ψ Ψ x12 x13 x14=δ at a⊢;refine zcz (W.of a ⟨rfl,?_⟩);subst d;have v:=Mv.push [] T (.lst ((crs b).map craD));exact ztO (B.mv v) (c.mv v)
@[irreducible]noncomputable def lw8:CS:=.blk (.asg 9 8 #[J2,J1]) lw9
structure Bw(T:R.St)(wl m b:Nat)(low:Int)(ws:List Int):Prop where
 gw:T.get wl=Φ (.lst (ws.map D.int))
 lo:Lo ws m low
 wb:∀w∈ws,Kz.gw (.int w)=Γ
 b1:1<=b
 b5:b<=5
 bm:b+2<=m
 m7:m<=7
 lk:T.lk=[]
def lw_8(B:Bw T wl m b low ws):W (exS (callF prog (n+8)) lw8 (Ez ns b m x3 x4 x5 low wl k Ψ Ψ Ψ Ψ Ψ Ψ) T) λf _=>f=.rt (.bl Γ):=by
 unfold lw8;have e:exT (callF prog (n+8)) (.asg 9 8 #[J2,J1]) (Ez ns b m x3 x4 x5 low wl k Ψ Ψ Ψ Ψ Ψ Ψ) T=.ok (Ez ns b m x3 x4 x5 low wl k (Φ (.ref T.len)) Ψ Ψ Ψ Ψ Ψ) (T.push (.lst ((crs b).map craD))):=by rw[exT,show evEs (callF prog (n+8)) #[J2,J1] (Ez ns b m x3 x4 x5 low wl k Ψ Ψ Ψ Ψ Ψ Ψ) T=.ok [.int (m:Nat),.int (b:Nat)] T from rfl];dsimp only;rw[zno (zjk B.b1 B.b5 B.bm B.m7)];rfl
 refine zh3 e ?_;have v:=Mv.push [] T (.lst ((crs b).map craD));exact lw_9 ⟨zad B.gw,zan _ _,B.lo,B.wb,B.b1,B.b5,B.bm,B.m7,B.lk⟩ (zdh (λl a=>by rw[B.lk]at a;cases a) v (le_refl _))
@[irreducible]noncomputable def lw7:CS:=.forS [8] (.rng2 U1 J2) wdB lw8
def zoi{cf:CF}{δ:Ev}(a:(δ[2]?).join=Φ (.int (m:Nat)))(c:1<=m)(m7:m<=7):evL cf (.rng2 U1 J2) δ T=.ok (zeF 1 (m-1),[]) T:=by show Out.bind _ _=_;rw[show evE cf U1 δ T=.ok (.int 1) T from rfl,zaj,zc3 a,zaj];dsimp only;rw[if_pos (by lia),show((m:Nat)-1:Int).toNat=m-1 by lia];have:=zcl (m-1) 1;rw[<-this];rfl
def lw_7(g:T.get wl=Φ (.lst [.int low]))(hf:Fr T wl)(e:1<=b)(h:b<=5)(i:b+2<=m)(m7:m<=7)(q:-(10^60)<low)(r:low<=0)(lk:T.lk=[]):W (exS (callF prog (n+8)) lw7 (Ez ns b m x3 x4 x5 low wl Ψ Ψ Ψ Ψ Ψ Ψ Ψ) T) λf _=>f=.rt (.bl Γ):=by
 unfold lw7;have c:=zoi (T:=T) (cf:=callF prog (n+8)) (δ:=Ez ns b m x3 x4 x5 low wl Ψ Ψ Ψ Ψ Ψ Ψ Ψ) rfl (by lia) m7;generalize j:Ez ns b m x3 x4 x5 low wl Ψ Ψ Ψ Ψ Ψ Ψ Ψ=δ at c⊢;refine zb0 c ?_;subst j;refine(ziN (m-1) 1 [low] T Ψ g hf (by simp;lia)).mono λf U l=>?_;let⟨⟨o,rfl⟩,p,d⟩:=l;have O:=zs4 ns low m (by lia);rw[show({U with lk:=T.lk}:R.St)=U by rw[<-d.lk]];refine lw_8 ⟨p,O,λw a=>?_,e,h,i,m7,d.lk.trans lk⟩;have:low<=w/\w<=low+10^59:=by rcases mem_cons.mp a with rfl|a;exact⟨Int.le_refl _,by lia⟩;have:=zeB ns low _ _ w a;lia
 apply decide_eq_true;split<;>lia
end
section
variable{ns:List Int}{b m wl n L:Nat}{low:Int}{x3 x4 x5:Option D}{T:R.St}
@[irreducible]noncomputable def lw6:CS:=.asg 7 (.lst #[J6]) lw7
noncomputable abbrev Eq0(ns:List Int)(a c x3 x4 x5 d:Option D):Ev:=[Φ (.fix (ns.map .int)),a,c,x3,x4,x5,d,Ψ,Ψ,Ψ,Ψ,Ψ,Ψ,Ψ,Ψ]
abbrev lwLo:CE:=.bin .Add (.bin .Sub (.bin .Mod (.call 16 0 #[J0,U3]) (.bin .Pow U10 U60)) (.bin .Pow U10 U60)) U1
@[irreducible]noncomputable def lw5:CS:=.asg 6 lwLo lw6
def lw_6(c:1<=b)(d:b<=5)(e:b+2<=m)(m7:m<=7)(g:-(10^60)<low)(h:low<=0)(lk:T.lk=[]):W (exS (callF prog (n+8)) lw6 (Eq0 ns (Φ (.int (b:Nat))) (Φ (.int (m:Nat))) x3 x4 x5 (Φ (.int low))) T) λf _=>f=.rt (.bl Γ):=by unfold lw6;have v:=Mv.push [] T (.lst [.int low]);have i:evE (callF prog (n+8)) (.lst #[J6]) (Eq0 ns (Φ (.int (b:Nat))) (Φ (.int (m:Nat))) x3 x4 x5 (Φ (.int low))) T=.ok (.ref T.len) (T.push (.lst [.int low])):=rfl;refine zb3 i ?_;exact lw_7 (zan _ _) (zdh (λl a=>by rw[lk]at a;cases a) v (le_refl _)) c d e m7 g h lk
def zsn{cf:CF}{δ:Ev}(h0:(δ[0]?).join=Φ (.fix (ns.map .int))):evE (callF prog (n+1)) lwLo δ T=.ok (.int (zbb ns 3%10^60-10^60+1)) T:=by
 refine W.eq (wE_W _ ?_);show(match (δ[0]?).join with|some d=>_|none=>False);rw[h0];left;specialize zfq;left;change by decide
 left;change by decide
 left;change by decide
 exact⟨rfl,rfl⟩
def lw_5(a:1<=b)(c:b<=5)(d:b+2<=m)(m7:m<=7)(lk:T.lk=[]):W (exS (callF prog (n+8)) lw5 (Eq0 ns (Φ (.int (b:Nat))) (Φ (.int (m:Nat))) x3 x4 x5 Ψ) T) λf _=>f=.rt (.bl Γ):=by unfold lw5;have e:=zsn (n:=n+7) (T:=T) (cf:=callF prog 0) (δ:=Eq0 ns (Φ (.int (b:Nat))) (Φ (.int (m:Nat))) x3 x4 x5 Ψ) rfl;exact zb3 e (lw_6 a c d m7 (by lia) (by lia) lk)
end
section
variable{ns:List Int}{b m n L:Nat}{T:R.St}{e0 e1 v:D}{bad:Bool}
abbrev lwI4:CE:=.and (.tst J3) (.nt (.tst (.call 18 0 #[.ix J4 U0,.ix J4 U1,J5])))
@[irreducible]noncomputable def lw4:CS:=.ifS lwI4 (.ret (.con (D.bl Δ)) .nil) .nil lw5
def ev_4{δ:Ev}(c:(δ[3]?).join=Φ (.bl bad))(e:(δ[4]?).join=Φ (.ref L))(f:(δ[5]?).join=Φ v)(g:T.get L=Φ (.lst [e0,e1]))(R:bad=Γ->Re T e0 e1 v):evT (callF prog (n+5)) lwI4 δ T=.ok Δ T:=by
 have i:evT (callF prog (n+5)) (.tst J3) δ T=.ok bad T:=by show Out.bind _ _=_;rw[zc3 c,zaj];rfl
 show Out.bind _ _=_;rw[i,zaj];cases bad with
 |false=>rfl| true=>
  have a:∀{k:Int}{d:D},atI [e0,e1] k=Φ d->evE (callF prog (n+5)) (.ix J4 (.con (D.int k))) δ T=.ok d T:=λ{k d} h=>by show Out.bind _ _=_;rw[zc3 e,zaj];show Out.bind (Out.ok (D.int k) T) _=_;rw[zaj];unfold zbe;dsimp only;rw[g];show lift T (atI [e0,e1] k)=_;rw[h];rfl
  have j:evEs (callF prog (n+5)) #[.ix J4 U0,.ix J4 U1,J5] δ T=.ok [e0,e1,v] T:=by rw[evEs,a zmE,zaj,evEs,a zg0,zaj,evEs,zc3 f];rfl
  have l:evE (callF prog (n+5)) (.call 18 0 #[.ix J4 U0,.ix J4 U1,J5]) δ T=.ok (.bl Γ) T:=by show Out.bind _ _=_;rw[j,zaj];exact zjl (R rfl)
  show Out.bind (Out.bind (evE _ _ δ T) _) _=_;rw[l];rfl
def lw_4(g:T.get L=Φ (.lst [e0,e1]))(R:bad=Γ->Re T e0 e1 v)(c:1<=b)(d:b<=5)(e:b+2<=m)(m7:m<=7)(lk:T.lk=[]):W (exS (callF prog (n+8)) lw4 (Eq0 ns (Φ (.int (b:Nat))) (Φ (.int (m:Nat))) (Φ (.bl bad)) (Φ (.ref L)) (Φ v) Ψ) T) λf _=>f=.rt (.bl Γ):=by unfold lw4;have a:=ev_4 (n:=n+3) (δ:=Eq0 ns (Φ (.int (b:Nat))) (Φ (.int (m:Nat))) (Φ (.bl bad)) (Φ (.ref L)) (Φ v) Ψ) rfl rfl rfl g R;generalize h:Eq0 ns (Φ (.int (b:Nat))) (Φ (.int (m:Nat))) (Φ (.bl bad)) (Φ (.ref L)) (Φ v) Ψ=δ at a⊢;refine zcz (W.of a ⟨rfl,?_⟩);subst h;exact lw_5 c d e m7 lk
abbrev lwC3:CE:=.call 19 0 #[J2,J1,.call 16 0 #[J0,U1],.call 16 0 #[J0,U2]]
@[irreducible]noncomputable def lw3:CS:=.asgT [3,4,5] lwC3 lw4
def ev_3{δ:Ev}(h0:(δ[0]?).join=Φ (.fix (ns.map .int)))(a:(δ[1]?).join=Φ (.int (b:Nat)))(d:(δ[2]?).join=Φ (.int (m:Nat))):evE (callF prog (n+1)) lwC3 δ T=app (callF prog (n+1)) 19 [.int (m:Nat),.int (b:Nat),.int (zbb ns 1),.int (zbb ns 2)] T:=by
 have c:∀k:Nat,evE (callF prog (n+1)) (.call 16 0 #[J0,.con (D.int k)]) δ T=.ok (.int (zbb ns k)) T:=λk=>by (conv=>lhs;whnf);rw[evEs,zc3 h0];exact zfq
 (conv=>lhs;whnf);rw[evEs,zc3 d,zaj,evEs,zc3 a,zaj,evEs,show evE (callF prog (n+1)) (.call 16 0 #[J0,U1]) δ T=_ from c 1,zaj,evEs,show evE (callF prog (n+1)) (.call 16 0 #[J0,U2]) δ T=_ from c 2];rfl
def lw_3(a:1<=b)(c:b<=5)(e:b+2<=m)(m7:m<=7)(lk:T.lk=[]):W (exS (callF prog (n+8)) lw3 (Eq0 ns (Φ (.int (b:Nat))) (Φ (.int (m:Nat))) Ψ Ψ Ψ Ψ) T) λf _=>f=.rt (.bl Γ):=by unfold lw3;have h:=ev_3 (n:=n+7) (T:=T) (δ:=Eq0 ns (Φ (.int (b:Nat))) (Φ (.int (m:Nat))) Ψ Ψ Ψ Ψ) rfl rfl rfl;show W (Out.bind _ _) _;rw[h,zab];refine(zjj (by lia) (by lia)).mono λd U i=>?_;let⟨v,bad,L,e0,e1,w,rfl,g,R⟩:=i;exact lw_4 g R a c e m7 (v.lk.trans lk)
abbrev lwC1:CE:=.bin .Add U1 (.bin .Mod (.call 16 0 #[J0,U0]) U5)
abbrev lwC2:CE:=.bin .Add (.bin .Add J1 U2) (.bin .Mod (.bin .FloorDiv (.call 16 0 #[J0,U0]) U5) (.bin .Sub U6 J1))
@[irreducible]noncomputable def lw2:CS:=.asg 2 lwC2 lw3
@[irreducible]noncomputable def lw1:CS:=.asg 1 lwC1 lw2
def zo5:c_law.body=lw1:=by unfold lw1 lw2 lw3 lw4 lw5 lw6 lw7 lw8 lw9 lw10 lw11 lw12 lw13 lw14 lwB;rfl
def law_true(ns:List Int)(_:ns.length<=63):W (callF prog 10 22 [.fix (ns.map .int)] ⟨[],[],[]⟩) λd _=>d=.bl Γ:=by
 have a:W (exS (callF prog 9) c_law.body (zar c_law [.fix (ns.map .int)]) ⟨[],[],[]⟩) λf _=>f=.rt (.bl Γ):=by
  rw[zo5];obtain⟨b,c⟩:∃b:Nat,1+zbb ns 0%5=(b:Int):=⟨(1+zbb ns 0%5).toNat,by lia⟩;have l:=emod_nonneg (zbb ns 0/5) (b:=6-(b:Int)) (by lia);have o:=Int.emod_lt_of_pos (zbb ns 0/5) (b:=6-(b:Int)) (by lia);obtain⟨m,e⟩:∃m:Nat,(b:Int)+2+zbb ns 0/5%(6-(b:Int))=(m:Int):=⟨((b:Int)+2+zbb ns 0/5%(6-(b:Int))).toNat,by lia⟩;unfold lw1;refine zb3 (d:=.int (b:Nat)) (S':=⟨[],[],[]⟩) (W.eq (wE_W _ ?_)) ?_;left;specialize zfq;left;change by decide
  left;exact⟨by rw[c],rfl⟩;unfold lw2;refine zb3 (d:=.int (m:Nat)) (S':=⟨[],[],[]⟩) (W.eq (wE_W _ ?_)) ?_;left;specialize zfq;left;change by decide
  left;change by lia
  exact⟨by rw[e],rfl⟩;exact lw_3 (by lia) (by lia) (by lia) (by lia) rfl
 have g:prog[22]?=Φ c_law:=rfl;show W (Out.bind (exS (callF prog 9) c_law.body (zar c_law [.fix (ns.map .int)]) ⟨[],[],[]⟩).ne _) _;rw[zab,W_ne];refine a.mono λf T h=>?_;subst h;rfl
end
end
section
open PySem R L2
def lam_mem:(tab.lamP,("run":Str) ++ ".<locals>." ++ "<lambda>")∈Mks.ts:=by decide +kernel
def lam_one:∀p∈Mks.ts,p.1=tab.lamP->p.2=("run":Str) ++ ".<locals>." ++ "<lambda>":=by intro p a z;simp![Mks.ts,mem_cons,not_mem_nil,or_false]at a;subst a<;>first|decide +kernel|exact absurd z (by decide +kernel)
def lam_b:∀j,j<=1->∃n,(["hands","rounds","wires"]:List Str).length=n+j/\∀(d:Addr)(kV a c:Ξ)(e:Option Addr)(b ct:Ξ)(us:List Ξ),us.length=n->∃k,bindArgs (fnOf "run" "run" (zaz zhl) (zal zhl) (zac zhl) (.ref d) kV a c e b ct) ⟨us,[]⟩=seqItems? (.ref d)>>=k/\k (Φ [Ξ.none].toArray)=pure ((["hands","rounds","wires"]:List Str).zip (us++List.replicate j Ξ.none))
 |0,_=>⟨3,rfl,λ_ _ _ _ _ _ _=>usS λ_=>usS λ_=>usS λ_=>usZ ⟨_,rfl,rfl⟩⟩|1,_=>⟨2,rfl,λ_ _ _ _ _ _ _=>usS λ_=>usS λ_=>usZ ⟨_,rfl,rfl⟩⟩
end
end Kz
open PySem PySem.W PyProof.Rows
set_option maxRecDepth 100000 in
set_option maxHeartbeats 0 in
theorem PySem.Challenge.cw_traitorround_k79_short_floods_holds : PySem.Challenge.rw_traitorround_k79_short_floods.Holds := by
 w_on;o_law;k_head;(case hw=>w_witness2)
 k_fill
 refine R.walk_ofT (l:=PySem.Challenge.rw_traitorround_k79_short_floods) (n:=63) (k:=21) (x:="_law_script") (sp:=λw=>R.spF _ (R.callF Kz.prog 10) 22) rfl (by decide) rfl ⟨rfl,by decide,by decide⟩ (λw h Y=>PySem.W.km_in_of Y) ?hT ?hK ?F (λ_ _ a ns hl hx tb=>R.law_spT hx tb (Kz.law_true ns hl))
 case hT=>intro w h Y p hp;simp![R.Mks.ts,Kz.mks,mem_cons,not_mem_nil,or_false]at hp;subst hp;exact PySem.W.km_tabs_of Y 306 (by simp)
 case hK=>intro w p hp;simp![R.Mks.ts,Kz.mks,mem_cons,not_mem_nil,or_false]at hp;subst hp;exact⟨by with_unfolding_all rfl,310,by with_unfolding_all rfl⟩
 case F=>
  intro w mg fa h KX G hmg;apply R.all_of (n:=9) KX G hmg Kz.O37 (le_refl _)
  . (repeat' (first|exact trivial|apply R.AllAtG.cons|apply R.AllInG.cons))
    . apply R.clOk (c:=0) KX G rfl<;>first|k_is|((repeat' (first|exact trivial|apply R.AllAtG.cons|apply R.AllInG.cons))<;>k_is)
    . apply R.clOk (c:=1) KX G rfl<;>first|k_is|((repeat' (first|exact trivial|apply R.AllAtG.cons|apply R.AllInG.cons))<;>k_is)
    . apply R.clOk (c:=2) KX G rfl<;>first|k_is|((repeat' (first|exact trivial|apply R.AllAtG.cons|apply R.AllInG.cons))<;>k_is)
  . (repeat' (first|exact trivial|apply R.AllAtG.cons|apply R.AllInG.cons))<;>k_is
  . (repeat' (first|exact trivial|apply R.AllAtG.cons|apply R.AllInG.cons))<;>(first|apply R.coOk|apply R.coOkS)<;>k_is
  . intro base bm
    (repeat' (first|exact trivial|apply R.AllAtG.cons|apply R.AllInG.cons))
    . apply R.dOk KX G Kz.O28<;>k_is
    . apply R.dOk KX G Kz.O33<;>k_is
    . apply R.dOk KX G Kz.O34<;>k_is
    . apply R.dOk KX G Kz.O25<;>k_is
    . apply R.dOk KX G Kz.O30<;>k_is
    . apply R.dOk KX G Kz.O31<;>k_is
    . apply R.dOk KX G Kz.O35<;>k_is
    . apply R.dOk KX G Kz.O21<;>k_is
    . apply R.dOk KX G Kz.O10<;>k_is
    . apply R.dOk KX G Kz.O5<;>k_is
    . apply R.lOkD KX G bm Kz.O38 Kz.lam_mem Kz.lam_one Kz.lam_b<;>first|k_is|with_unfolding_all rfl
    . apply R.dOk KX G Kz.O29<;>k_is
    . apply R.dOk KX G Kz.O32<;>k_is
    . apply R.dOk KX G Kz.O20<;>k_is
    . apply R.dOk KX G Kz.O27<;>k_is
    . apply R.dOk KX G Kz.O7<;>k_is
    . apply R.dOk KX G Kz.O19<;>k_is
    . apply R.dOk KX G Kz.O26<;>k_is
    . apply R.dOk KX G Kz.O17<;>k_is
    . apply R.dOk KX G Kz.O15<;>k_is
    . apply R.dOk KX G Kz.O23<;>k_is
    . apply R.dOk KX G Kz.O36<;>k_is
    . apply R.dOk KX G Kz.O37<;>k_is
  . intro hc
    (repeat' (first|exact trivial|apply R.AllAtG.cons|apply R.AllInG.cons))
    . apply R.mOk (c:=0) hc Kz.O2 rfl rfl<;>k_is
    . apply R.mOk (c:=2) hc Kz.O9 rfl rfl<;>k_is
    . apply R.mOk (c:=2) hc Kz.O14 rfl rfl<;>k_is
    . apply R.mOk (c:=0) hc Kz.O6 rfl rfl<;>k_is
    . apply R.mOk (c:=1) hc Kz.O11 rfl rfl<;>k_is
    . apply R.mOk (c:=0) hc Kz.O3 rfl rfl<;>k_is
    . apply R.mOk (c:=2) hc Kz.O12 rfl rfl<;>k_is
    . apply R.mOk (c:=0) hc Kz.O0 rfl rfl<;>k_is
    . apply R.mOk (c:=1) hc Kz.O1 rfl rfl<;>k_is
    . apply R.mOk (c:=0) hc Kz.O8 rfl rfl<;>k_is
    . apply R.mOk (c:=1) hc Kz.O18 rfl rfl<;>k_is
  . (repeat' (first|exact trivial|apply R.AllAtG.cons|apply R.AllInG.cons))
    . apply R.iOk (c:=1) Kz.O13 rfl<;>k_is
    . apply R.iOkD (c:=2) (n:=5) (items:=#[Ξ.none,Ξ.none]) Kz.O16 rfl (λ_ _ _ _ _ _ _=>Kz.us5 λ_ _ _ _ _=>⟨_,rfl,rfl⟩) rfl<;>k_is
    . apply R.iOkD (c:=2) (n:=6) (items:=#[Ξ.none,Ξ.none]) Kz.O16 rfl (λ_ _ _ _ _ _ _=>Kz.us6 λ_ _ _ _ _ _=>⟨_,rfl,rfl⟩) rfl<;>k_is
    . apply R.iOk (c:=0) Kz.O4 rfl<;>k_is
  . (repeat' (first|exact trivial|apply R.AllAtG.cons|apply R.AllInG.cons))
    . apply R.cOk KX G Kz.O22<;>k_is
    . apply R.cOk KX G Kz.O24<;>k_is
  . (repeat' (first|exact trivial|apply R.AllAtG.cons|apply R.AllInG.cons))
  decide +kernel
  . (repeat' (first|exact trivial|apply R.AllAtG.cons|apply R.AllInG.cons))<;>apply R.XGet.mk<;>k_is
  . (repeat' (first|exact trivial|apply R.AllAtG.cons|apply R.AllInG.cons))<;>apply R.IsaOk.mk<;>k_is
  . (repeat' (first|exact trivial|apply R.AllAtG.cons|apply R.AllInG.cons))
    . apply R.xcOk (c:=0) KX G Kz.ox_NoCount rfl<;>first|k_is|with_unfolding_all rfl
    . apply R.xcOk (c:=1) KX G Kz.ox_NoHand rfl<;>first|k_is|with_unfolding_all rfl
    . apply R.xcOk (c:=2) KX G Kz.ox_NoWord rfl<;>first|k_is|with_unfolding_all rfl
    . apply R.xcOk (c:=3) KX G Kz.ox_NoLetter rfl<;>first|k_is|with_unfolding_all rfl
  . (repeat' (first|exact trivial|apply R.AllAtG.cons|apply R.AllInG.cons))<;>(repeat' (first|exact trivial|apply R.AllAtG.cons|apply R.AllInG.cons))<;>k_is
  . (repeat' (first|exact trivial|apply R.AllAtG.cons|apply R.AllInG.cons))
    . apply R.xisOk KX G<;>first|k_is|((repeat' (first|exact trivial|apply R.AllAtG.cons|apply R.AllInG.cons))<;>first|k_is|with_unfolding_all rfl)
    . apply R.xisOk KX G<;>first|k_is|((repeat' (first|exact trivial|apply R.AllAtG.cons|apply R.AllInG.cons))<;>first|k_is|with_unfolding_all rfl)
    . apply R.xisOk KX G<;>first|k_is|((repeat' (first|exact trivial|apply R.AllAtG.cons|apply R.AllInG.cons))<;>first|k_is|with_unfolding_all rfl)
    . apply R.xisOk KX G<;>first|k_is|((repeat' (first|exact trivial|apply R.AllAtG.cons|apply R.AllInG.cons))<;>first|k_is|with_unfolding_all rfl)
    . apply R.xisOk KX G<;>first|k_is|((repeat' (first|exact trivial|apply R.AllAtG.cons|apply R.AllInG.cons))<;>first|k_is|with_unfolding_all rfl)
    . apply R.xisOk KX G<;>first|k_is|((repeat' (first|exact trivial|apply R.AllAtG.cons|apply R.AllInG.cons))<;>first|k_is|with_unfolding_all rfl)
  . (repeat' (first|exact trivial|apply R.AllAtG.cons|apply R.AllInG.cons))
    . apply R.xibOk KX G (by decide) rfl<;>first|k_is|((repeat' (first|exact trivial|apply R.AllAtG.cons|apply R.AllInG.cons))<;>first|k_is|with_unfolding_all rfl)
  . (repeat' (first|exact trivial|apply R.AllAtG.cons|apply R.AllInG.cons))
    . apply R.xtrOk KX G<;>first|k_is|((repeat' (first|exact trivial|apply R.AllAtG.cons|apply R.AllInG.cons))<;>first|k_is|with_unfolding_all rfl)
  all_goals k_is
end
