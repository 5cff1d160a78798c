import PyProof.Rows.All
import Wide.All
import OpenK.AllK
import Wide.FinOn
import Lean
import PyProof.EqAt
import PyProof.EqKinds
import PyProof.TupleCall
import PyProof.P3Statements
import PySem.Syntax
import PyProof.Dict
import PyProof.Rows.SortRuns
import PySem.Challenge.RW_traitorround_k45_what_is_good
set_option Elab.async false
set_option linter.all false
set_option linter.deprecated false
set_option maxHeartbeats 4000000
set_option maxRecDepth 100000
set_option bootstrap.genMatcherCode false
set_option genInjectivity false
set_option genSizeOf false
set_option genSizeOfSpec false
open Option renaming some→Φ,none→Ψ
open Bool renaming true→Γ,false→Δ,and_eq_true→Α,false_ne_true→Ζ,false_eq_true→Υ
open PySem renaming wpAny_bind→Θ,wpAny_pure→Ξ,Value→Λ,Shared→Η,Program→Τ,wpAny_newObj_type→ό,wpAny_call_entry→ύ,World→ϐ,Around→ϑ,sizeLine_eq→ϔ,wpAny_holding→ϖ,wpAny_forIn_list→ϙ,wpAny_callSpecial?_slot→Ϛ,codeAny_builtin→Ϝ,wpAny_truthy_bool→Ϟ,wpAny_setState_of→ϟ,wpAny_mono→Ϥ,wpAny_seqItems→ϥ,wpAny_specialOf→Ϩ,codeAny_mono→ϩ,wpAny_rule→Ϭ,wpAny_isInstance→ϭ,wpAny_field→ϯ
open PySem.Heap renaming get?_push_of_some→Ω,get?_push_size→Ι,lt_size→Κ,size_push→ϒ
open List renaming getElem?_eq_some_iff→Β,getElem?_eq_getElem→Ε,mem_cons_of_mem→Ν,mem_cons_self→Ρ,getD_eq_getElem?_getD→ϊ,map_cons→ϋ,mem_iff_getElem→ϓ,getElem_mem→ϕ,map_congr_left→Ϙ,getElem?_eq_none→ϛ,find?_cons→Ϫ
open PyProof.Rows renaming wpS_bind→Μ,wpS_pure→Ο,wpS_forRange→Ϧ,wpS_mono→ϫ
open Array renaming getElem?_toList→Χ,getElem?_eq_getElem→ώ,toList_append→ϗ,getElem_toList→Ϡ,forIn_toList→Ϣ
open Nat renaming lt_succ_of_lt→ϝ,lt_succ_self→ϧ,add_assoc→Ϯ
open Int renaming toNat_natCast→ϡ
open PySem.Around renaming under_plainId→ϣ
open PySem.W (Frag KatTups callWith_K callWith_K0 codeIn emptyDict findCls findIn fnOf handedIn hasDictIn instObj isFn kat_cons kat_no kat_one keepIn kia_one kitOne kitx_dict kitx_list lookIn makesIn methodObj mg_of mroIn nsIn plainGet plainGet_of plainOver readsIn specialIn takerIn takesIn)
open Bool (and_eq_true not_eq_true' or_eq_true)
open Nat (le_of_eq le_of_lt le_refl le_succ le_trans lt_irrefl lt_of_lt_of_le lt_succ_of_lt lt_succ_self lt_trans ne_of_gt ne_of_lt zero_add zero_le)
open List (Pairwise all_cons all_eq_true any_cons append_assoc append_nil ext_getElem? getElem?_append_left getElem?_append_right getElem?_map getElem?_set_ne getElem?_set_self isEmpty_iff length_append length_cons length_map length_mapIdx length_nil length_range length_replicate length_take lookup_cons mapM_cons map_append map_cons map_map map_nil mem_append mem_append_left mem_append_right mem_cons mem_cons_of_mem mem_cons_self mem_filter mem_map mem_of_getElem? mem_range mem_singleton nodup_append nodup_cons not_mem_nil pairwise_cons pairwise_map prefix_append prefix_refl size_toArray)
open Array (length_toList)
open Option (bind_some)
open Int (emod_nonneg)
local macro_rules|`(tactic|lia)=>`(tactic|first|assumption|exact Nat.le_of_lt ‹_›|exact Nat.le_refl _|exact Nat.zero_le _|exact Nat.lt_of_lt_of_le ‹_› ‹_›|exact Nat.lt_of_le_of_lt ‹_› ‹_›|exact Nat.le_trans ‹_› ‹_›|exact Nat.lt_succ_of_le ‹_›|exact Nat.lt_succ_self _|exact Nat.le_succ _|exact Nat.le_succ_of_le ‹_›|exact Nat.add_sub_cancel' ‹_›|exact Nat.le_of_not_lt ‹_›|exact Nat.lt_of_not_le ‹_›|exact Nat.le_add_right _ _|exact Nat.le_add_left _ _|exact Nat.pos_of_ne_zero ‹_›|exact Nat.lt_of_succ_lt ‹_›|exact Nat.ne_of_gt ‹_›|exact Nat.sub_le _ _|exact Nat.lt_add_right _ ‹_›|exact Nat.le_trans (Nat.le_add_right _ _) ‹_›|exact Int.le_trans ‹_› ‹_›|exact Int.lt_of_lt_of_le ‹_› ‹_›|exact Int.lt_of_le_of_lt ‹_› ‹_›|exact Int.le_of_lt ‹_›|exact Int.natCast_nonneg _|cutsat)
structure PySem.W.Fast:Prop where(tw10452234306977402936 tw10508866875647601840 tw10959313453063783755 tw11116221712552555833 tw11249291008099103439 tw11488350765316830051 tw1172119020583118343 tw11892129505907872676 tw1195788738685402578 tw12064624746974791662 tw13045912978449020099 tw13114716092277344684 tw13237520332454231706 tw13453595350638416522 tw13564784973500285514 tw13576742987941138738 tw13587347864571102353 tw13683640160905467970 tw14149005030325696993 tw1419437037538364299 tw14449049835973498541 tw14515423638459121032 tw14602329006756292904 tw14892243301039232923 tw14978211048656456197 tw15178083730962937617 tw15216398799418678677 tw15239241626221425072 tw15651976927701192852 tw15822721064788919773 tw16173004705245998644 tw16223662509208815816 tw16279449674264473883 tw16841431692677548514 tw17174178549735151720 tw17257427164901940404 tw17316387857124860576 tw17532060893038931357 tw17596661487058522462 tw18023149780261685940 tw18049942733819845609 tw1835508684328469665 tw18406741483268943254 tw1963504916451193529 tw2283445064531462382 tw241229401420732669 tw3027149610041478059 tw327828377825879462 tw3301712575877239682 tw3339285655614028955 tw3778299444024396355 tw3909252008599732141 tw4010932089215656452 tw4136627172275020503 tw4157581191494734529 tw426671507357602975 tw4331494094303954967 tw4363732011606945595 tw4450150541169899648 tw4475118840108044557 tw463259330653466383 tw469648989739575520 tw4747691018410552107 tw4769640814197867415 tw4974949539949953910 tw5027655542002972662 tw5094716594907153018 tw5117498107977328317 tw5257928316326931606 tw5646983055888544419 tw5809512007002322977 tw6152763981261602933 tw6207178824394119096 tw6317685157762502630 tw6467827482440773405 tw6500942297239149057 tw6591475136756181774 tw6647545052452684511 tw6804011951474307773 tw7102066290677018946 tw7298315368405694907 tw7308488465925024767 tw7420611850390292426 tw7745949193169813228 tw8265191648405873096 tw8279985987872097944 tw8374029922076832616 tw8439436145526349154 tw8981710107016851782 tw8985222991977793423 tw9272815618858528931 tw9366705235446450997 tw9892853678516468836 tw16731037064021048312 tw9245434484572164435 tw10061628875856128297 tw13165330344125491668 tw1625497326107615784 tw16778317574212125656 tw2268291852514149582 tw3403987408659280681 tw4791425552349101372 tw6563063098834652119 tw13060365151529758377 tw13614873169008253952 tw8010473444532151173 tw9813815464548655029 tw1160795062809095784 tw11562979782868449798 tw12260712316236301668 tw14886308493676675692 tw15325654141265894198 tw1601630975394230086 tw17860396972390922540 tw17964223866135903453 tw6436657656766366822 tw11601603019513377765 tw14755951286180993803 tw158958498124615284 tw18293817257537515511 tw1875237286273219019 tw3596071281394705429 tw7892497701412162440 tw8265549747416849269 tw13378893604192714078 tw16608106021899289276 tw10186535682806469371 tw10769829357162913592 tw13922163097454877068 tw3818395019431071075 tw4070831880439214653 tw4491833961390311332 tw5028906118197816504 tw5779264617158285415 tw9344771055030594308 tw12782148809003633364 tw2573819569569223805 tw3508053017904971939 tw5714724083476110122 tw8344192508190689835 tw15585496617238619366 tw18171751230247805938 tw16496857323256238001 tw5502321891940169448 tw189242210263881878 tw7563409270109123503 tw7388254811895040464 tw12048328711545849931 tw1535794859010402366 tw15898938480092573619 tw3967185353616098334 tw14713158508447167381 tw16297319041535703243 tw1790988191970519821 tw3133392410367830460 tw14936846699481206822 tw5648774452880108921 tw9479788948375412996 tw12246313189402943859 tw4290222933741190521 tw7316220779400730423 tw10904998196279229256 tw12770503680529747365 tw3234392183889102560 tw12408034653100250036 tw15063822491950983205 tw2573541763679818123 tw3683280885298576596 tw14770662898569834638 tw5949137439937565191 tw11685335999590551378 tw3775321394406194768 tw4309753167460727162 tw10563561400908308957 tw11973038751818511121 tw15593903573673558028 tw17596243012290848781 tw10583193871268894503 tw16522047656991047484 tw4743146843234171736 tw9748724218752440412 tw14495604123592928768 tw8738157155641012765 tw427359186132075019 tw5016458132716896314 tw14145140720672430021 tw12468652977771913819 tw8754503763294784126 tw14201280434893703023 tw1470428432717959000 tw429183617259836912 tw1540976761491449646 tw14843440308787298466 tw12419794356209304431 tw1066685511483005950 tw12585993677245162794 tw14037702897473828879 tw16265090193563042394 tw15783792919273746564 tw6608361165479069920 tw15263545968473002592 tw3780105312387320130 tw8868096330127121309 tw1371136897572794405 tw2095912419728486011 tw4790653913052433033 tw2631687931058710088 tw3678315809952571241 tw1556170333587523720 tw198253279007499203 tw8806856794525296421 tw9348438719572044428 tw2845342241304337639 tw5234346935397617405 tw13696293907727432858 tw11643308347839049308 tw8322606912202668614 tw5704270910838659811 tw9516426344210548625 tw8688615878268195181 tw8498117403102545935 tw10218685378261392057 tw16648590261435028690 tw6364818683101208701 tw9568702851389252198 tw5049215265411998280 tw13124335148495066563 tw1422549173054715468 tw4880726318173622575 tw17367455800064420272 tw14148301839471092348 tw13422294737514785520 tw9161047330944220002 tw13132047738640112029 tw16631801697324803612 tw17988044582255185796 tw10699564002799411805 tw4957847499340169045 tw17960079116267602059 tw1009532187409144784 tw13513539636566440780 tw1723997105729057171 tw946142698960369180 tw8345286712596382484 tw14363436772118437317 tw1613477844100571237 tw4037363413094711594 tw11784703584112765259 tw15533679444230882462 tw18037628926789832906 tw3624558232794224161 tw11589043709822047101 tw11990663193258543691 tw9685092197842914432 tw3710985357904505483 tw15205899068754265290 tw6449350265507799754 tw16960890227589771432 tw7355865173522427747 tw1011711955967194225 tw12467004425362822118 tw13175498292590014854 tw6248796674879102923 tw942203072586309310 tw1704792048089589691 tw5896948071294939085 tw13497831735757392090 tw11257126646766423211 tw12342983498846233271 tw8583080982350486637 tw1427068849433622345 tw14550782776652433364 tw5763477927250447772 tw10453159324824429345 tw8908305930261019601 tw7880465405226578240 tw7117762907899377585 tw1739679452962010918 tw14122298290295818586 tw17661014408212791640 tw4274113512656620320 tw1958088075383220217 tw17388020565267178370 tw7440322346871587843 tw7563235888377990646 tw17583103663318192147 tw16977758747113346609 tw5400784640649721521 tw16768607486615506630 tw16973916805489246244 tw16940741124835145918 tw13328304519579415300 tw10747355164848899438 tw5144850565043732081 tw15930186407756932006 tw3043501258206331757 tw12321494838673670177 tw13012985456607658074 tw3389910594932136401 tw2590370086922699418 tw9866824713998152150 tw6398144423249485787 tw15962482183514154498 tw14765012788731058553 tw17621340976072258780 tw3021539345397694607 tw16875318097589852951 tw13594030745174917125 tw9336391361914917711 tw8591320683349746527 tw7795111837741281800 tw8502043382551327765 tw9436743201721388005 tw12609311072933357893 tw18004299619380065617 tw6299645489221791660 tw62317318181996323 tw15392472290422916387 tw883019393031921975 tw4922839846402404548 tw16448740368464875020 tw5170797591267011913 tw9962734157962559570 tw10440959068292500076 tw16374646405358676728 tw17135485389348978045 tw4708932421696741020 tw6959498006382208528 tw8841942857834580938 tw568408292602776948 tw5337701986440846279 tw4126698344981864280 tw11022209022278388608 tw15314285693671840733 tw5659048110298998141 tw3421594531733764892 tw14394684134121904381 tw14612030952830448920 tw6707546172665970981 tw17704177671233692932 tw11170897246285170159 tw2456669642088575669 tw546671861381958366 tw6279580191192366293 tw3433364636694652198 tw3942056560905973158 tw7225096792056977692 tw9091365031027493322 tw3106353685698773190 tw10815587967550566484 tw16036879751690227485 tw17712724033789697670 tw18117467511651959938 tw4202445096470841021 tw10468239787753374353 tw17594631941714598156 tw1722357359682191505 tw12483363687717819839 tw7924852118001866462 tw6637887863464352973 tw16947482459713144939 tw16332159134754141487 tw15364108276929886100 tw8101531108860650513 tw922926803863356177 tw12027269620252548723 tw13313990998725109788 tw14971971499741588531 tw5638892785003556759 tw2683656418214247352 tw1142928457117672081 tw14733976560512766002 tw5181594192693592452 tw2363887759253484988 tw16590249625399846986 tw16059665858308599433 tw6979628823660328522 tw17836805891800470570 tw2874992237880778152 tw13658611892847664336 tw6740810904308845 tw12488623247901827822 tw13855904891485696687 tw16266751041587559129 tw17988886198727653390 tw4296243318155924359 tw10534208989684596527 tw8831088102833212529 tw12186224079836373593 tw16405843819412265612 tw13815235194440809405 tw16119368431585902445 tw17405886139337323447 tw13223729949502143720 tw9299618929227566201:True)
theorem nS{b:Type _}{a:b}{P:Prop}(h:Ψ=Φ a):P:=by cases h
theorem nB{P:Prop}(h:Δ=Γ):P:=by cases h
theorem usS{b:Type}{P:List b->Prop}(h:∀a,∀us:List b,us.length=n->P (a::us)):∀us:List b,us.length=n+1->P us:=λus e=>by cases us with|nil=>cases e|cons a us=>exact h a us (Nat.succ.inj e)
theorem usZ{a:Type}{P:List a->Prop}(h:P []):∀us:List a,us.length=0->P us:=λus e=>by cases us with|nil=>exact h|cons=>cases e
theorem eY{c d:Type _}{p q r:c->d->Prop}{P:Prop}(h:∃a b,p a b/\q a b/\r a b)(k:∀a b,p a b->q a b->r a b->P):P:=h.elim λa h=>h.elim λb h=>k a b h.1 h.2.1 h.2.2
namespace L2
open PySem PySem.Spec PyProof.Rows
abbrev Key:=Sum Int Str
noncomputable def zfE:Key->Λ->Bool
 |.inl k,v=>Λ.isInt k v|.inr x,v=>Λ.isStrOf x v
noncomputable def keyH(w:ϐ):Key->Int
 |.inl k=>hashInt k|.inr x=>hashStr w x
theorem zas:∀{k:Key}{v:Λ},zfE k v=Γ->(∃i t,k=Sum.inl i/\v=Λ.int i t)\/(∃x t,k=Sum.inr x/\v=Λ.str x t)
 |.inl i,v,h=>by obtain⟨t,e⟩:=Λ.isInt_shape h;exact .inl ⟨i,t,rfl,e⟩| .inr x,v,h=>by obtain⟨t,e⟩:=Λ.isStrOf_shape h;exact .inr ⟨x,t,rfl,e⟩
theorem zjU(i)(t):zfE (.inl i) (.int i t)=Γ:=by simp[zfE,Λ.isInt]
theorem zjT(x)(t):zfE (.inr x) (.str x t)=Γ:=by simp[zfE,Λ.isStrOf]
theorem zqK(a b):decide ((Sum.inl a:Key)=Sum.inl b)=(a==b):=by by_cases e:a=b;subst e;simp;have h:¬(Sum.inl a:Key)=Sum.inl b:=λq=>e (Sum.inl.inj q);rw[decide_eq_false h];exact(beq_eq_false_iff_ne.mpr e).symm
theorem zqH(a b):decide ((Sum.inr a:Key)=Sum.inr b)=decide (a=b):=by by_cases e:a=b;simp;have h:¬(Sum.inr a:Key)=Sum.inr b:=λq=>e (Sum.inr.inj q);rw[decide_eq_false h,decide_eq_false e]
theorem zqJ(a)(b):decide ((Sum.inl a:Key)=Sum.inr b)=Δ:=decide_eq_false (λq=>by cases q)
theorem zqI(a)(b):decide ((Sum.inr a:Key)=Sum.inl b)=Δ:=decide_eq_false (λq=>by cases q)
noncomputable def zaf(prog:Τ)(w:ϐ):PySem.KeyKind prog w Key where
 is:=zfE
 hash:=keyH w
 inj:=λv a b ha hb=>by rcases zas ha with⟨i,t,rfl,rfl⟩|⟨x,t,rfl,rfl⟩;rcases zas hb with⟨j,u,rfl,e⟩|⟨y,u,rfl,e⟩;injection e with e1 _;rw[e1];exact nomatch e;rcases zas hb with⟨j,u,rfl,e⟩|⟨y,u,rfl,e⟩;exact nomatch e;injection e with e1 _;rw[e1]
 byValue:=λk v h=>by rcases zas h with⟨i,t,rfl,rfl⟩|⟨x,t,rfl,rfl⟩<;>rfl
 pyHash:=λhv h=>by rcases zas hv with⟨i,t,rfl,rfl⟩|⟨x,t,rfl,rfl⟩;exact wpAny_pyHash_int h;exact wpAny_pyHash_str h
 eqBool:=λhu hv h=>by rcases zas hu with⟨i,t,rfl,rfl⟩|⟨x,t,rfl,rfl⟩;rcases zas hv with⟨j,u,rfl,rfl⟩|⟨y,u,rfl,rfl⟩;rw[zqK]at h;exact wpAny_eqBool_int h;rw[zqJ]at h;exact SeqAt.EqAt.int_str i t y u _ _ _ _ h;rcases zas hv with⟨j,u,rfl,rfl⟩|⟨y,u,rfl,rfl⟩;rw[zqI]at h;exact SeqAt.EqAt.str_int x t j u _ _ _ _ h;rw[zqH]at h;exact wpAny_eqBool_str h
 «strs»:=λk x t v h=>by
  rcases zas h with⟨i,u,rfl,e⟩|⟨y,u,rfl,e⟩;exact nomatch e
  . injection e with e1 _;subst e1;cases v<;>rfl
theorem zgx(prog)(w)(i)(t):(zaf prog w).is (.inl i) (.int i t)=Γ:=zjU i t
theorem zgw(prog)(w)(x)(t):(zaf prog w).is (.inr x) (.str x t)=Γ:=zjT x t
set_option genInjectivity true in
inductive V where
 |non|bl (b:Bool)|int (i:Int)|str (x:Str)|byt (b:Array UInt8)|flt (b:UInt64)|ref (a:Addr)|ty (n:String)
 deriving DecidableEq
def RelV:V->Λ->Prop
 |.non,u=>u=Λ.none|.bl b,u=>u=Λ.bool b|.int i,u=>∃t,u=Λ.int i t|.str x,u=>∃t,u=Λ.str x t|.byt b,u=>∃t,u=Λ.bytes b t|.flt b,u=>∃t,u=Λ.float b t|.ref a,u=>u=Λ.ref a|.ty n,u=>u=Λ.type n
abbrev Vals:List V->List Λ->Prop:=Paired RelV
theorem Vals.length(r:Vals xs us):xs.length=us.length:=Paired.length r
theorem Vals.get:∀{xs:List V}{us:List Λ}{i:Nat}{x:V},Vals xs us->xs[i]?=Φ x->∃u,us[i]?=Φ u/\RelV x u
 |_,_,_,_,.nil,e=>by simp at e|_,_,0,_,.cons r _,e=>by simp at e;subst e;exact⟨_,rfl,r⟩| _,_,i+1,x,.cons _ t,e=>by obtain⟨u,a,b⟩:=Vals.get (i:=i) (x:=x) t (by simpa using e);exact⟨u,by simpa using a,b⟩
theorem Vals.set(r:RelV x u):∀{xs:List V}{us:List Λ}(i:Nat),Vals xs us->Vals (xs.set i x) (us.set i u)
 |_,_,_,.nil=>.nil|_,_,0,.cons _ t=>.cons r t|_,_,i+1,.cons q t=>.cons q (Vals.set r i t)
theorem Vals.append:∀{xs ys:List V}{us a:List Λ},Vals xs us->Vals ys a->Vals (xs++ys) (us++a)
 |_,_,_,_,.nil,s=>s|_,_,_,_,.cons r t,s=>.cons r (Vals.append t s)
theorem Vals.take:∀{xs:List V}{us:List Λ}(n:Nat),Vals xs us->Vals (xs.take n) (us.take n)
 |_,_,0,_=>.nil|_,_,_+1,.nil=>.nil|_,_,n+1,.cons r t=>.cons r (Vals.take n t)
theorem Vals.drop:∀{xs:List V}{us:List Λ}(n:Nat),Vals xs us->Vals (xs.drop n) (us.drop n)
 |_,_,0,r=>r|_,_,_+1,.nil=>.nil|_,_,n+1,.cons _ t=>Vals.drop n t
theorem Vals.none_of:∀{xs:List V}{us:List Λ}{i:Nat},Vals xs us->xs[i]?=Ψ->us[i]?=Ψ:=λ{xs us i} r e=>by have h1:=r.length;have h2:xs.length<=i:=List.getElem?_eq_none_iff.mp e;exact List.getElem?_eq_none_iff.mpr (by lia)
def RelO:Option V->Option Λ->Prop
 |some v,Φ u=>RelV v u|none,Ψ=>True|_,_=>False
def KV{κ:Type}:List (κ×V)->List (κ×Λ)->Prop:=Paired λ(p:κ×V) (q:κ×Λ)=>p.1=q.1/\RelV p.2 q.2
noncomputable def kV:Key->V
 |.inl i=>.int i|.inr x=>.str x
inductive HO where
 |lst (xs:List V)
 |tup (xs:List V)
 |dK (kvs:List (Key×V))|dT (kvs:List (List Key×V))
 |set (S:Int->Bool) (n:Nat)
 |ins (C dx:Addr) (fs:List (Str×V))
 |own (x:Addr)
 |xd (fs:List (Str×V))
 |met (f x:Addr)
 |rng (lo hi:Int)
 |frz (o:Obj) (u:HO)
 |tbl (ps:Array Λ)
 |ext (φ:Heap->Prop)
abbrev Hp:=Addr->Option HO
noncomputable def upd(H:Hp)(a:Addr)(o:HO):Hp:=λb=>if b=a then Φ o else H b
theorem zao:upd H a o a=Φ o:=by unfold upd;rw[if_pos rfl]
theorem zak(h:b≠a):upd H a o b=H b:=by unfold upd;rw[if_neg h]
theorem ne_of{H:Hp}(h:H a=Φ o)(h':H b=Φ u)(d:o≠u):a≠b:=by intro e;subst e;rw[h]at h';exact d (Option.some.inj h')
theorem zav{H:Hp}(h:H a=Φ o)(h':H b=Ψ):a≠b:=by intro e;subst e;rw[h]at h';cases h'
section
variable(P:Τ)(w:ϐ)
def ObjOk(H:Hp)(h:Heap)(a:Addr):HO->Prop
 |.lst d=>d.length<=sizeLine/\∃(b:List Λ) (n:Nat),Vals d b/\h.get? a=Φ {cls:=.type "list",data:=.seq b.toArray n}|.tup d=>d.length<=sizeLine/\∃b:List Λ,Vals d b/\IsTup h a b.toArray|.dK c=>c.length<=sizeLine/\(a==sysModules)=Δ/\∃k,KV c k/\h.DictOf (zaf P w) a k
 |.dT c=>c.length<=sizeLine/\(a==sysModules)=Δ/\∃d:List (List Key×Addr×Λ),
  Paired (λ(p:List Key×V) (q:List Key×Addr×Λ)=>p.1=q.1/\H q.2.1=Φ (.tup (p.1.map kV))/\RelV p.2 q.2.2) c d/\
  ∃o l s,h.get? a=Φ o/\o.ExactDict/\o.data=.dict l s/\l.toList=d.map (entryOfKey (tupleKind (zaf P w)))/\(d.map (·.1)).Nodup
 |.set S n=>h.SetOf (intKind P w) a S n
 |.ins C i g=>H i=Φ (.own a)/\g.length<=1000/\i≠a/\h.get? a=Φ (instObj C i)/\
  ∃e,h.Ns1 i e/\(∀f,RelO (g.lookup f) (e f))/\PySem.Within e (g.map (·.1))
 |.own _=>∃o,h.get? a=Φ o|.xd g=>∃e,h.Ns1 a e/\∀f,RelO (g.lookup f) (e f)|.rng lo y=>∃t u v,h.get? a=Φ {cls:=.type "range",data:=.fields #[.int lo t,.int y u,.int 1 v]}|.frz o u=>h.get? a=Φ o/\ObjOk H h a u|.tbl z=>h.get? a=Φ {cls:=.none,data:=.fields z}|.met f x=>h.get? a=Φ (methodObj (.ref f) (.ref x))|.ext j=>j h/\(∃o,h.get? a=Φ o)/\∀m r:Heap,j m->(∀o,m.get? a=Φ o->r.get? a=Φ o)->j r
def HOk(H:Hp)(h:Heap):Prop:=∀a o,H a=Φ o->ObjOk P w H h a o
end
section
variable{P:Τ}{w:ϐ}{H H':Hp}{h h':Heap}{a:Addr}{o:HO}
theorem ObjOk.lt(x:ObjOk P w H h a o):a<h.objs.size:=by cases o with|lst c=>obtain⟨_,_,_,_,e⟩:=x;exact Κ e|tup c=>obtain⟨_,_,_,p⟩:=x;exact p.lt|dK b=>obtain⟨_,_,_,_,o,_,_,e,_⟩:=x;exact Κ e|dT b=>obtain⟨_,_,_,_,o,_,_,e,_⟩:=x;exact Κ e|set S n=>obtain⟨o,_,_,_,e,_⟩:=x;exact Κ e|ins C g d=>obtain⟨_,_,_,e,_⟩:=x;exact Κ e|own y=>obtain⟨_,e⟩:=x;exact Κ e|xd d=>obtain⟨_,⟨_,_,_,e,_⟩,_⟩:=x;exact Κ e|rng lo i=>obtain⟨_,_,_,e⟩:=x;exact Κ e|frz j u=>obtain⟨e,_⟩:=x;exact Κ e|tbl k=>exact Κ (show h.get? a=Φ _ from x)|met f y=>exact Κ (show h.get? a=Φ _ from x)|ext l=>obtain⟨_,⟨_,e⟩,_⟩:=x;exact Κ e
theorem Paired.mapP{c:List e}{d:List g}(h:Paired F c d)(f:∀a b,F a b->G a b):Paired G c d:=by induction h with|nil=>exact .nil|cons r _ i=>exact .cons (f _ _ r) i
theorem ObjOk.stay(x:ObjOk P w H h a o)(k:∀b u,(b=a\/H b=Φ (.own a))->h.get? b=Φ u->h'.get? b=Φ u)
  (E:∀b,H b=Φ (.own a)->H' b=Φ (.own a)) (G:∀b xs,H b=Φ (.tup xs)->H' b=Φ (.tup xs)):ObjOk P w H' h' a o:=by
 induction o with|lst xs=>obtain⟨z,l,n,r,e⟩:=x;exact⟨z,l,n,r,k _ _ (.inl rfl) e⟩|tup xs=>obtain⟨z,l,r,g,e,c⟩:=x;exact⟨z,l,r,g,k _ _ (.inl rfl) e,c⟩|dK m=>obtain⟨z,y,I,r,g,i,j,e,c⟩:=x;exact⟨z,y,I,r,g,i,j,k _ _ (.inl rfl) e,c⟩| dT m=>obtain⟨z,y,xs,r,g,i,j,e,c⟩:=x;exact⟨z,y,xs,Paired.mapP r λp q z=>⟨z.1,G _ _ z.2.1,z.2.2⟩,g,i,j,k _ _ (.inl rfl) e,c⟩|set S n=>obtain⟨g,i,j,t,e,c⟩:=x;exact⟨g,i,j,t,k _ _ (.inl rfl) e,c⟩| ins C O J=>obtain⟨d,z,L,e,s,⟨A,i,j,M,c⟩,r⟩:=x;exact⟨E _ d,z,L,k _ _ (.inl rfl) e,s,⟨A,i,j,k _ _ (.inr d) M,c⟩,r⟩|own y=>obtain⟨g,e⟩:=x;exact⟨g,k _ _ (.inl rfl) e⟩|xd J=>obtain⟨s,⟨A,i,j,e,c⟩,r⟩:=x;exact⟨s,⟨A,i,j,k _ _ (.inl rfl) e,c⟩,r⟩|rng lo Q=>obtain⟨t,u,v,e⟩:=x;exact⟨t,u,v,k _ _ (.inl rfl) e⟩|frz g u N=>obtain⟨e,q⟩:=x;exact⟨k _ _ (.inl rfl) e,N q⟩| tbl B=>have e:h.get? a=Φ {cls:=.none,data:=.fields B}:=x;show h'.get? a=Φ {cls:=.none,data:=.fields B};exact k a _ (.inl rfl) e| met f y=>have e:h.get? a=Φ (methodObj (.ref f) (.ref y)):=x;show h'.get? a=Φ (methodObj (.ref f) (.ref y));exact k a _ (.inl rfl) e|ext T=>obtain⟨p,⟨o,e⟩,st⟩:=x;exact⟨st _ _ p λo q=>k _ _ (.inl rfl) q,⟨o,k _ _ (.inl rfl) e⟩,st⟩
theorem HOk.lt(x:HOk P w H h)(e:H a=Φ o):a<h.objs.size:=(x a o e).lt
theorem HOk.fresh(x:HOk P w H h)(e:h.objs.size<=a):H a=Ψ:=by cases q:H a with|none=>rfl|some u=>exact absurd (lt_of_lt_of_le (x.lt q) e) (lt_irrefl _)
theorem HOk.kept(x:HOk P w H h)(k:∀b u,h.get? b=Φ u->h'.get? b=Φ u):HOk P w H h':=λa o e=>(x a o e).stay (λb u _ q=>k b u q) (λ_ q=>q) λ_ _ q=>q
theorem HOk.laid(x:HOk P w H h)(k:∀b u,h.get? b=Φ u->h'.get? b=Φ u)(g:h.objs.size<=a)(new:ObjOk P w (upd H a o) h' a o):HOk P w (upd H a o) h':=λb u e=>by have d:=x.fresh g;by_cases f:b=a;subst f;rw[zao]at e;cases e;exact new;rw[zak f]at e;exact(x b u e).stay (λc v _ q=>k c v q) (λc q=>by rw[zak (zav q d)];exact q) λc i q=>by rw[zak (zav q d)];exact q
end
def Rd(H:Hp)(a:Addr)(u:HO):Prop:=H a=Φ u\/∃o,H a=Φ (.frz o u)
theorem Rd.ok(r:Rd H a u)(x:HOk P w H h):ObjOk P w H h a u:=by rcases r with r|⟨o,r⟩;exact x a u r;obtain⟨_,q⟩:=x a _ r;exact q
def Mut:Option HO->Prop
 |some (.lst _)=>True|some (.dK _)=>True|some (.dT _)=>True|some (.set _ _)=>True|some (.ins _ _ _)=>True|some (.ext _)=>True|_=>False
section
variable{P:Τ}{w:ϐ}{H:Hp}{h h':Heap}{x e:Addr}{o':HO}
theorem HOk.write(ok:HOk P w H h)(g:Mut (H x))(n:e=x\/H e=Φ (.own x))(k:∀b u,b≠e->h.get? b=Φ u->h'.get? b=Φ u)(m:∃u,h'.get? e=Φ u)
  (new:ObjOk P w (upd H x o') h' x o'):HOk P w (upd H x o') h':=λb u q=>by
 have d:∀c y,H c=Φ (.own y)->c≠x:=λc y r z=>by subst z;rw[r]at g;exact g
 have f:∀c i,H c=Φ (.tup i)->c≠x:=λc i r z=>by subst z;rw[r]at g;exact g
 by_cases j:b=x;subst j;rw[zao]at q;cases q;exact new;rw[zak j]at q;by_cases a:b=e;have o:H b=Φ (.own x):=by rcases n with z|z;exact absurd (a.trans z) j;rw[a];exact z
 rw[q]at o;cases o;obtain⟨v,p⟩:=m;exact⟨v,by rw[a];exact p⟩;refine(ok b u q).stay (λc v l r=>k c v ?_ r) (λc r=>by rw[zak (d c b r)];exact r) λc i r=>by rw[zak (f c i r)];exact r
 rcases l with rfl|l;exact a;rintro rfl;rcases n with z|z;exact d c b l z;rw[l]at z;cases z;exact j rfl
end
structure Un(fs ex:List Addr)(H H':Hp)(h h':Heap):Prop where
 keep:∀b o,h.get? b=Φ o->H b=Ψ->b∉fs->b∉ex->h'.get? b=Φ o
 slot:∀b o,h.get? b=Φ o->H b=Ψ->b∈fs->b∉ex->∃sl,h'.get? b=Φ {o with slots:=sl}
 free:∀b o,h.get? b=Φ o->H b=Ψ->b∉ex->H' b=Ψ
 there:∀b o,h.get? b=Φ o->b∉ex->∃o',h'.get? b=Φ o'
 tups:∀b xs,H b=Φ (.tup xs)->H' b=Φ (.tup xs)
 frzs:∀b o u,H b=Φ (.frz o u)->H' b=Φ (.frz o u)
 tbls:∀b ps,H b=Φ (.tbl ps)->∃more,H' b=Φ (.tbl (ps++more))
section
variable{fs fs' ex ex':List Addr}{H H1 H2:Hp}{h h1 h2 h':Heap}{a x e:Addr}{o:HO}
theorem Un.any(u:Un fs ex H H1 h h1)(q:h.get? b=Φ c)(n:H b=Ψ)(d:b∉ex):∃g,h1.get? b=Φ {c with slots:=g}:=by by_cases f:b∈fs;exact u.slot b c q n f d;exact⟨c.slots,u.keep b c q n f d⟩
theorem Un.kept(k:∀b u,h.get? b=Φ u->h'.get? b=Φ u):Un fs ex H H h h':=⟨λb c q _ _ _=>k b c q,λb c q _ _ _=>⟨c.slots,k b c q⟩,λ_ _ _ n _=>n,λb c q _=>⟨c,k b c q⟩,λ_ _ q=>q,λ_ _ _ q=>q,λ_ d q=>⟨#[],by rw[q];simp⟩⟩
theorem Un.refl:Un fs ex H H h h:=Un.kept λ_ _ q=>q
theorem Un.laid(k:∀b u,h.get? b=Φ u->h'.get? b=Φ u)(d:h.objs.size<=a)(c:H a=Ψ):Un fs ex H (upd H a o) h h' where
 keep:=λb u q _ _ _=>k b u q
 slot:=λb u q _ _ _=>⟨u.slots,k b u q⟩
 free:=λb u q n _=>by rw[zak (ne_of_lt (lt_of_lt_of_le (Κ q) d))];exact n
 there:=λb u q _=>⟨u,k b u q⟩
 tups:=λb f q=>by rw[zak (zav q c)];exact q
 frzs:=λb u f q=>by rw[zak (zav q c)];exact q
 tbls:=λb g q=>⟨#[],by rw[zak (zav q c),q];simp⟩
theorem Un.write(d:Mut (H x))(l:e=x\/H e=Φ (.own x))(k:∀b u,b≠e->h.get? b=Φ u->h'.get? b=Φ u)(f:∃u,h'.get? e=Φ u):Un fs ex H (upd H x o) h h':=by
 have i:∀b,H b=Ψ->b≠x:=λb n z=>by subst z;rw[n]at d;exact d
 have j:∀b,H b=Ψ->b≠e:=λb n z=>by subst z;rcases l with r|r;exact i b n r;rw[n]at r;exact nS r
 have g:∀b u,H b=Φ u->¬Mut (Φ u)->b≠x:=λb u q m z=>by subst z;rw[q]at d;exact m d
 refine⟨λb u q n _ _=>k b u (j b n) q,λb u q n _ _=>⟨u.slots,k b u (j b n) q⟩,λb u q n _=>by rw[zak (i b n)];exact n,λb u q _=>?_,
  λb p q=>by rw[zak (g b _ q λz=>z)];exact q,λb u p q=>by rw[zak (g b _ q λz=>z)];exact q,λb s q=>⟨#[],by rw[zak (g b _ q λz=>z),q];simp⟩⟩
 by_cases c:b=e;subst c;exact f;exact⟨u,k b u c q⟩
end
noncomputable def trk(h:Heap)(H:Hp):List Addr:=(List.range h.objs.size).filter λa=>(H a).isSome
noncomputable def hidT(h:Heap)(H:Hp):Heap:=PySem.W.hideAll h (trk h H)
theorem zj6(h)(H):(hidT h H).objs.size=h.objs.size:=PySem.W.hideAll_size _ _
theorem zlL(e:h.get? b=Φ o)(n:H b=Ψ):(hidT h H).get? b=Φ o:=PySem.W.hideAll_get _ e λa=>by have q:=(mem_filter.mp a).2;rw[n]at q;simp at q
theorem znW(e:(hidT h H).get? b=Φ o):h.get? b=Φ o/\H b=Ψ:=by have a:=PySem.W.of_hideAll (trk h H) e;refine⟨a,?_⟩;cases q:H b with|none=>rfl| some x=>have c:b∈trk h H:=mem_filter.mpr ⟨mem_range.mpr (Κ a),by simp[q]⟩;have z:(hidT h H).get? b=Ψ:=PySem.W.hideAll_none (trk h H) c;rw[z]at e;exact nS e
structure Mod(K:Frag)(mg:Str->Option Λ)(base:Heap):Prop where
 kin:K.In base
 glob:base.Ns mainGlobals mg
 blt:∃mb,base.Ns builtinsNs mb/\∀x:Str,x≠"__name__"->mb x=bootBuiltins x
 nolimit:base.NoLimit
structure Cx where
 prog:Τ
 w:ϐ
 K:Frag
 mg:Str->Option Λ
 base:Heap
 A:ϑ
 N:List Str
 s₀:Η
 H₀:Hp
 env:Env
 outer:List Env
 stack:List Env
 ex:List Addr
 fn:Str->Bool
 calm:Bool
 pn:List (Addr×Obj)
 xe:Λ->Η->Prop
noncomputable def frs(l:List Env):List Addr:=l.filterMap (·.frame)
noncomputable abbrev Cx.fs(X:Cx):List Addr:=frs X.outer
def Vis(a:Scope)(x:Str):Prop:=a.names.lookup x=Φ .local\/a.names.lookup x=Φ .cell\/a.names.lookup x=Φ .free
def Loc(a:Scope)(x:Str):Prop:=a.names.lookup x=Φ .local\/a.names.lookup x=Φ .cell
def Look(env:Env)(h:Heap)(m:Str->Option Λ)(x:Str)(u:Λ):Prop:=(env.kindOf x=Φ .local/\m x=Φ u)\/((env.kindOf x=Φ .cell\/env.kindOf x=Φ .free)/\∃c,env.cells.lookup x=Φ c/\h.IsCell c (Φ u))
structure Cx.Ok(X:Cx):Prop where
 mod:Mod X.K X.mg X.base
 kind:X.env.scope.kind=.function
 glob:X.env.globals=mainGlobals
 blt:X.env.builtins=builtinsNs
 above:X.s₀.heap.objs.size<=X.env.locals
 inj:∀x y c,X.env.cells.lookup x=Φ c->X.env.cells.lookup y=Φ c->x=y
 has:∀x,(X.env.kindOf x=Φ .cell\/X.env.kindOf x=Φ .free)->∃c,X.env.cells.lookup x=Φ c
 cab:∀x c,X.fn x=Γ->X.env.cells.lookup x=Φ c->X.s₀.heap.objs.size<=c
 hd:X.calm=Γ->X.A.handled=Ψ
 frames:X.A.frames=Φ X.stack
 stk:X.stack=X.outer\/(X.stack=X.env::X.outer/\X.env.frame=Φ X.env.locals)
 exf:∀b∈X.ex,b≠X.env.locals/\∀x c,X.env.cells.lookup x=Φ c->c≠b
 bs:∀b o,X.base.get? b=Φ o->X.s₀.heap.get? b=Φ o/\X.H₀ b=Ψ
 bsz:X.base.objs.size<=X.s₀.heap.objs.size
 noex:∀b o,X.base.get? b=Φ o->b∉X.ex
 exfs:∀b∈X.ex,b∉X.fs
 funs:X.s₀.heap.FunFrames X.base X.outer
 frf:∀b∈X.fs,X.H₀ b=Ψ
structure Inv(X:Cx)(pins:List (Addr×Obj))(σ:List (Option V))(H:Hp)(s:Η):Prop where
 ok:X.Ok
 os:s.os=X.s₀.os
 bare:AllBare s.gens
 base:Un X.fs X.ex X.H₀ H X.s₀.heap s.heap
 loc:∃m,s.heap.Ns X.env.locals m/\∀(i:Nat)(x:Str)(v:V),X.N[i]?=Φ x->σ[i]?=Φ (Φ v)->Vis X.env.scope x->∃u,RelV v u/\Look X.env s.heap m x u
 cell:∀x c,X.env.cells.lookup x=Φ c->∃v,s.heap.IsCell c v
 free:H X.env.locals=Ψ
 freeC:∀x c,X.env.cells.lookup x=Φ c->H c=Ψ
 pin:∀p∈X.pn++pins,s.heap.get? p.1=Φ p.2/\H p.1=Ψ/\p.1≠X.env.locals/\p.1∉X.fs/\∀v,p.2.data≠.cell v
 hok:HOk X.prog X.w H s.heap
 len:σ.length=X.N.length
section
variable{X:Cx}{pins:List (Addr×Obj)}{σ:List (Option V)}{H H':Hp}{s:Η}{h':Heap}
theorem Cx.Ok.nofr(ok:X.Ok)(e:X.base.get? b=Φ o):b∉X.fs:=λa=>by have:=(ok.funs.mem a).1;rw[e]at this;cases this
theorem Inv.bs(I:Inv X pins σ H s):∀b o,X.base.get? b=Φ o->s.heap.get? b=Φ o/\H b=Ψ:=λb o e=>⟨I.base.keep b o (I.ok.bs b o e).1 (I.ok.bs b o e).2 (I.ok.nofr e) (I.ok.noex b o e),I.base.free b o (I.ok.bs b o e).1 (I.ok.bs b o e).2 (I.ok.noex b o e)⟩
theorem Inv.bk(I:Inv X pins σ H s):∀b o,X.base.get? b=Φ o->s.heap.get? b=Φ o:=λb o e=>(I.bs b o e).1
theorem Inv.mod(I:Inv X pins σ H s):Mod X.K X.mg X.base:=I.ok.mod
theorem Inv.kIn(I:Inv X pins σ H s):X.K.In s.heap:=I.ok.mod.kin.keeps I.bk
theorem Inv.lt(I:Inv X pins σ H s):X.env.locals<s.heap.objs.size:=let ⟨_,a,_⟩:=I.loc;a.lt
theorem Inv.sz(I:Inv X pins σ H s):X.s₀.heap.objs.size<=s.heap.objs.size:=le_trans I.ok.above (le_of_lt I.lt)
theorem Inv.nofs(I:Inv X pins σ H s)(h:s.heap.objs.size<=a):a∉X.fs:=λb=>by obtain⟨_,o,c,_⟩:=I.ok.funs.mem b;exact absurd (lt_of_lt_of_le (Κ c) (le_trans I.sz h)) (lt_irrefl _)
theorem Inv.cne(I:Inv X pins σ H s):∀x c,X.env.cells.lookup x=Φ c->c≠X.env.locals:=λx c e z=>by obtain⟨v,o,d,f⟩:=I.cell x c e;obtain⟨m,⟨g,h,i,a,b,_⟩,_⟩:=I.loc;rw[z,a]at d;cases d;rw[b]at f;cases f
theorem Inv.funs(I:Inv X pins σ H s):s.heap.FunFrames X.base X.outer:=by
 have a:∀(l:List Env),(∀b∈frs l,b∈X.fs)->X.s₀.heap.FunFrames X.base l->s.heap.FunFrames X.base l:=by intro l;induction l with|nil=>intro _ _;trivial| cons h r i=>intro g j;obtain⟨k,⟨L,o,c,m,n,p⟩,q⟩:=j;have d:=g L (by unfold frs;rw[List.filterMap_cons,c];exact Ρ);obtain⟨t,e⟩:=I.base.slot L o n (I.ok.frf L d) d λz=>I.ok.exfs L z d;exact⟨k,⟨L,_,c,m,e,p⟩,i (λb f=>g b (by unfold frs;rw[List.filterMap_cons,c];exact Ν _ f)) q⟩
 exact a X.outer (λ_ f=>f) I.ok.funs
theorem Inv.stack(I:Inv X pins σ H s):s.heap.FunFrames X.base X.stack:=by rcases I.ok.stk with e|⟨e,a⟩;rw[e];exact I.funs;rw[e];obtain⟨m,b,_⟩:=I.loc;refine .cons (by rw[I.ok.kind];decide) a b ?_ I.funs;exact Heap.get?_none_of_le (le_trans I.ok.bsz I.ok.above)
theorem Inv.stkSub(I:Inv X pins σ H s):∀b∈frs X.stack,b∈X.env.locals::X.fs:=λb a=>by rcases I.ok.stk with e|⟨e,c⟩;rw[e]at a;exact Ν _ a;rw[e]at a;unfold frs at a;rw[List.filterMap_cons,c]at a;exact a
theorem Inv.stkFree(I:Inv X pins σ H s):∀b∈frs X.stack,H b=Ψ:=λb a=>by rcases mem_cons.mp (I.stkSub b a) with e|a;rw[e];exact I.free;obtain⟨_,o,c,_⟩:=I.ok.funs.mem a;exact I.base.free b o c (I.ok.frf b a) λz=>I.ok.exfs b z a
theorem Inv.step{ch:List Addr}(I:Inv X pins σ H s)(f:∀b∈ch,(b∈X.ex\/X.s₀.heap.objs.size<=b)/\b≠X.env.locals/\(∀x c,X.env.cells.lookup x=Φ c->c≠b)/\∀p∈X.pn++pins,p.1≠b)(g:∀b o,b≠X.env.locals->b∉X.fs->b∉ch->s.heap.get? b=Φ o->H b=Ψ->h'.get? b=Φ o)(A:∀b o,b≠X.env.locals->b∈X.fs->b∉ch->s.heap.get? b=Φ o->H b=Ψ->∃T,h'.get? b=Φ {o with slots:=T})(free:∀b o,b∉ch->s.heap.get? b=Φ o->H b=Ψ->H' b=Ψ)(B:∀b o,b∉ch->s.heap.get? b=Φ o->∃G,h'.get? b=Φ G)(J:∀b xs,H b=Φ (.tup xs)->H' b=Φ (.tup xs))(L:∀b o u,H b=Φ (.frz o u)->H' b=Φ (.frz o u))(M:∀b ps,H b=Φ (.tbl ps)->∃N,H' b=Φ (.tbl (ps++N)))(ns:∀m,s.heap.Ns X.env.locals m->h'.Ns X.env.locals m)(hok:HOk X.prog X.w H' h')(hg:AllBare g'):
  Inv X pins σ H' {s with heap:=h',gens:=g',drawn:=d',toks:=t'}:=by
 have O:∀b o,X.s₀.heap.get? b=Φ o->b≠X.env.locals:=λb o e=>ne_of_lt (lt_of_lt_of_le (Κ e) I.ok.above);have t:∀b o,X.s₀.heap.get? b=Φ o->b∉X.ex->b∉ch:=λb o e a C=>by rcases(f b C).1 with z|z;exact a z;exact absurd (lt_of_lt_of_le (Κ e) z) (lt_irrefl _)
 have h:∀x c,X.env.cells.lookup x=Φ c->∀v,s.heap.IsCell c v->h'.IsCell c v:=λx c e v y=>by obtain⟨o,E,U⟩:=y;have j:c∉ch:=λz=>(f c z).2.2.1 x c e rfl;by_cases hc:c∈X.fs;obtain⟨T,q⟩:=A c o (I.cne x c e) hc j E (I.freeC x c e);exact⟨_,q,U⟩;exact⟨o,g c o (I.cne x c e) hc j E (I.freeC x c e),U⟩
 refine⟨I.ok,I.os,hg,⟨λb o e n C a=>?_,λb o e n C a=>?_,λb o e n a=>?_,λb o e a=>?_,λb xs e=>J b xs (I.base.tups b xs e),λb o xs e=>L b o xs (I.base.frzs b o xs e),λb ps e=>?_⟩,?_,λx c e=>?_,?_,λx c e=>?_,λp hp=>?_,hok,I.len⟩;exact g b o (O b o e) C (t b o e a) (I.base.keep b o e n C a) (I.base.free b o e n a);obtain⟨T,w⟩:=I.base.slot b o e n C a;obtain⟨Y,Q⟩:=A b _ (O b o e) C (t b o e a) w (I.base.free b o e n a);exact⟨Y,Q⟩;obtain⟨G,w⟩:=I.base.there b o e a;exact free b G (t b o e a) w (I.base.free b o e n a);obtain⟨G,w⟩:=I.base.there b o e a;exact B b G (t b o e a) w;obtain⟨m1,w⟩:=I.base.tbls b ps e;obtain⟨m2,Q⟩:=M b _ w;exact⟨m1++m2,by rw[Q,Array.append_assoc]⟩;obtain⟨m,hn,hl⟩:=I.loc;refine⟨m,ns m hn,λi x v w Q e3=>?_⟩;obtain⟨u,r,l⟩:=hl i x v w Q e3;refine⟨u,r,?_⟩;rcases l with l|⟨k,c,e,z⟩;exact .inl l;exact .inr ⟨k,c,e,h x c e _ z⟩;obtain⟨v,z⟩:=I.cell x c e;exact⟨v,h x c e v z⟩;obtain⟨m,⟨o,_,_,E,_⟩,_⟩:=I.loc;exact free _ o (λz=>(f _ z).2.1 rfl) E I.free;obtain⟨v,o,E,U⟩:=I.cell x c e;exact free c o (λz=>(f c z).2.2.1 x c e rfl) E (I.freeC x c e);obtain⟨e,n,ne,nf,d⟩:=I.pin p hp;have j:p.1∉ch:=λz=>(f p.1 z).2.2.2 p hp rfl;exact⟨g p.1 p.2 ne nf j e n,free p.1 p.2 j e n,ne,nf,d⟩
theorem Inv.un(I:Inv X pins σ H s)(u:Un X.fs [] H H' s.heap h')(hok:HOk X.prog X.w H' h'):Inv X pins σ H' {s with heap:=h',toks:=t'}:=by obtain⟨m,⟨o,k,l,g,r⟩,_⟩:=id I.loc;obtain⟨p,h⟩:=u.any g I.free (by simp);exact I.step (g':=s.gens) (d':=s.drawn) (ch:=[]) (λ_ z=>by cases z) (λb o _ c _ e n=>u.keep b o e n c (by simp)) (λb o _ c _ e n=>u.slot b o e n c (by simp)) (λb o _ e n=>u.free b o e n (by simp)) (λb o _ e=>u.there b o e (by simp)) u.tups u.frzs u.tbls (λq i=>by obtain⟨t,d,f,a,j⟩:=i;rw[g]at a;cases a;exact⟨_,d,f,h,j⟩) hok I.bare
theorem Inv.call(I:Inv X pins σ H s)(u:Un (frs X.stack) ch H H' s.heap h')(hok:HOk X.prog X.w H' h')(k:AllBare g')(d:∀b∈ch,(b∈X.ex\/X.s₀.heap.objs.size<=b)/\b≠X.env.locals/\(∀x c,X.env.cells.lookup x=Φ c->c≠b)/\∀p∈X.pn++pins,p.1≠b):
  Inv X pins σ H' {s with heap:=h',gens:=g',drawn:=d',toks:=t'}:=by
 obtain⟨m,⟨o,v,w,j,r⟩,_⟩:=id I.loc;obtain⟨y,g⟩:=u.any j I.free λz=>(d _ z).2.1 rfl;exact I.step (ch:=ch) d (λb o g l a e n=>u.keep b o e n (λz=>(mem_cons.mp (I.stkSub b z)).elim g l) a) (λb o _ _ a e n=>u.any e n a) (λb o a e n=>u.free b o e n a) (λb o a e=>u.there b o e a) u.tups u.frzs u.tbls (λA q=>by obtain⟨B,h,i,f,t⟩:=q;rw[j]at f;cases f;exact⟨_,h,i,g,t⟩) hok k
theorem Inv.turned(I:Inv X pins σ H s)(k:∀b o,b≠it->s.heap.get? b=Φ o->h'.get? b=Φ o)(g:H it=Ψ)(f:it≠X.env.locals)(h:it∈X.ex\/X.s₀.heap.objs.size<=it)(i:∀x c,X.env.cells.lookup x=Φ c->c≠it)(j:∀p∈X.pn++pins,p.1≠it):Inv X pins σ H {s with heap:=h',toks:=t'}:=by
 have d:∀b u,H b=Φ u->b≠it:=λb u e z=>by rw[z,g]at e;exact nS e
 refine I.step (g':=s.gens) (d':=s.drawn) (ch:=[it]) (λb l=>?_) (λb o _ _ a e _=>k b o (λz=>a (by simp[z])) e) (λb o _ _ a e _=>⟨o.slots,k b o (λz=>a (by simp[z])) e⟩) (λ_ _ _ _ n=>n)
  (λb o a e=>⟨o,k b o (λz=>a (by simp[z])) e⟩) (λ_ _ e=>e) (λ_ _ _ e=>e) (λb B e=>⟨#[],by rw[e];simp⟩) (λm t=>?_) (λb u e=>?_) I.bare
 have e:b=it:=by simpa using l
 subst e;exact⟨h,f,i,j⟩;obtain⟨o,w,y,A,r⟩:=t;exact⟨o,w,y,k _ o (Ne.symm f) A,r⟩;refine(I.hok b u e).stay (λc v a q=>k c v ?_ q) (λ_ q=>q) λ_ _ q=>q;rcases a with z|z;rw[z];exact d b u e;exact d c _ z
theorem Inv.tok(I:Inv X pins σ H s)(t):Inv X pins σ H {s with toks:=t}:=I.un (h':=s.heap) (t':=t) Un.refl I.hok
theorem Inv.kept(I:Inv X pins σ H s)(k:∀b u,s.heap.get? b=Φ u->h'.get? b=Φ u):Inv X pins σ H {s with heap:=h',toks:=t'}:=I.un (Un.kept k) (I.hok.kept k)
theorem Inv.laid(I:Inv X pins σ H s)(k:∀b u,s.heap.get? b=Φ u->h'.get? b=Φ u)(c:s.heap.objs.size<=a)(new:ObjOk X.prog X.w (upd H a o) h' a o):
 Inv X pins σ (upd H a o) {s with heap:=h',toks:=t'}:=I.un (Un.laid k c (I.hok.fresh c)) (I.hok.laid k c new)
theorem Inv.write(I:Inv X pins σ H s)(c:Mut (H x))(d:e=x\/H e=Φ (.own x))(k:∀b u,b≠e->s.heap.get? b=Φ u->h'.get? b=Φ u)(a:∃u,h'.get? e=Φ u)(new:ObjOk X.prog X.w (upd H x o) h' x o):Inv X pins σ (upd H x o) {s with heap:=h',toks:=t'}:=I.un (Un.write c d k a) (I.hok.write c d k a new)
theorem Inv.pins_of(I:Inv X pins σ H s)(h:∀p∈a,s.heap.get? p.1=Φ p.2/\H p.1=Ψ/\p.1≠X.env.locals/\p.1∉X.fs/\∀v,p.2.data≠.cell v):Inv X a σ H s:=⟨I.ok,I.os,I.bare,I.base,I.loc,I.cell,I.free,I.freeC,λp b=>(mem_append.mp b).elim (λz=>I.pin p (mem_append_left _ z)) (h p),I.hok,I.len⟩
theorem zg9{N:List Str}(c:N.Nodup){i j:Nat}(a:N[i]?=Φ x)(b:N[j]?=Φ x):i=j:=by obtain⟨f,d⟩:=Β.mp a;obtain⟨g,e⟩:=Β.mp b;exact(List.getElem_inj c).mp (d.trans e.symm)
theorem zfd(I:Inv X pins σ H s)(hN:X.N.Nodup)(U:X.N[i]?=Φ x)(w:Loc X.env.scope x)(r:RelV v u)(h:∀s',Inv X pins (σ.set i (Φ v)) H s'->(∃a,Heap.SameBut a s.heap s'.heap/\(a=X.env.locals\/X.env.cells.lookup x=Φ a))->Q () s')(hf:X.fn x=Γ\/X.env.scope.names.lookup x=Φ .local:=by first|exact .inl rfl|exact .inr rfl|assumption):wpAny M A (storeName X.env x u) Q E s:=by
 obtain⟨m,hn,hl⟩:=id I.loc;have Y:(X.env.scope.kind==.class||(X.env.scope.kind==.module&&X.env.locals != X.env.globals))=Δ:=by rw[I.ok.kind];rfl
 have G:i<σ.length:=by rw[I.len];exact(Β.mp U).1
 have L:=I.cne;have g:∀{a:Addr}{h':Heap},(∃o,s.heap.get? a=Φ o/\H a=Ψ)->Heap.SameBut a s.heap h'->HOk X.prog X.w H h':=λ{a h'} ha f b ob e=>by obtain⟨_,_,B⟩:=ha;refine(I.hok b ob e).stay (λc w' t q=>(f.2 c ?_).trans q) (λ_ q=>q) λ_ _ q=>q;rintro rfl;rcases t with rfl|t;rw[B]at e;exact nS e;rw[B]at t;exact nS t
 rcases w with J|J;refine wpAny_storeName_local J hn (λh' hn' f=>?_) Y;obtain⟨oL,_,_,hoL,_⟩:=id hn;refine h _ ⟨I.ok,I.os,I.bare,⟨λb o e n N w=>?_,λb o e n N w=>?_,I.base.free,λb o e w=>?_,I.base.tups,I.base.frzs,I.base.tbls⟩,⟨_,hn',λj y v' l C e3=>?_⟩,λy c e=>?_,I.free,I.freeC,λp hp=>?_,g ⟨oL,hoL,I.free⟩ f,by simpa using I.len⟩ ⟨_,f,.inl rfl⟩;exact(f.2 b (ne_of_lt (lt_of_lt_of_le (Κ e) I.ok.above))).trans (I.base.keep b o e n N w);obtain⟨sl,l⟩:=I.base.slot b o e n N w;exact⟨sl,(f.2 b (ne_of_lt (lt_of_lt_of_le (Κ e) I.ok.above))).trans l⟩;obtain⟨o',l⟩:=I.base.there b o e w;exact⟨o',(f.2 b (ne_of_lt (lt_of_lt_of_le (Κ e) I.ok.above))).trans l⟩;by_cases O:j=i;subst O;rw[U]at l;cases l;rw[getElem?_set_self G]at C;cases C;exact⟨u,r,.inl ⟨J,by simp⟩⟩;rw[getElem?_set_ne (Ne.symm O)]at C;obtain⟨u',r',q⟩:=hl j y v' l C e3;refine⟨u',r',?_⟩;rcases q with⟨k,e⟩|⟨k,c,e,z⟩;refine .inl ⟨k,?_⟩;have:y≠x:=λe=>O (zg9 hN l (e▸U));simp[this,e];exact .inr ⟨k,c,e,z.sameBut f (L y c e)⟩;obtain⟨w',z⟩:=I.cell y c e;exact⟨w',z.sameBut f (L y c e)⟩;obtain⟨e,n,ne,nf,d⟩:=I.pin p hp;exact⟨(f.2 p.1 ne).trans e,n,ne,nf,d⟩;have T:X.fn x=Γ:=by rcases hf with z|z;exact z;rw[z]at J;cases J
 obtain⟨c,t⟩:=I.ok.has x (.inl J);obtain⟨w',z⟩:=I.cell x c t;refine wpAny_storeName_cell I.ok.kind J t z (λh' hc' f=>?_);obtain⟨oc,hoc,hocd⟩:=id z;refine h {s with heap:=h'} ⟨I.ok,I.os,I.bare,⟨λb o e n N w=>?_,λb o e n N w=>?_,I.base.free,λb o e w=>?_,I.base.tups,I.base.frzs,I.base.tbls⟩,⟨m,hn.sameBut f (Ne.symm (L x c t)),λj y v' l C e3=>?_⟩,λy c' e=>?_,I.free,I.freeC,λp hp=>?_,g ⟨oc,hoc,I.freeC x c t⟩ f,by simpa using I.len⟩ ⟨c,f,.inr t⟩;exact(f.2 b (ne_of_lt (lt_of_lt_of_le (Κ e) (I.ok.cab x c T t)))).trans (I.base.keep b o e n N w);obtain⟨sl,l⟩:=I.base.slot b o e n N w;exact⟨sl,(f.2 b (ne_of_lt (lt_of_lt_of_le (Κ e) (I.ok.cab x c T t)))).trans l⟩;obtain⟨o',l⟩:=I.base.there b o e w;exact⟨o',(f.2 b (ne_of_lt (lt_of_lt_of_le (Κ e) (I.ok.cab x c T t)))).trans l⟩;by_cases O:j=i;subst O;rw[U]at l;cases l;rw[getElem?_set_self G]at C;cases C;exact⟨u,r,.inr ⟨.inl J,c,t,hc'⟩⟩;rw[getElem?_set_ne (Ne.symm O)]at C;obtain⟨u',r',q⟩:=hl j y v' l C e3;refine⟨u',r',?_⟩;rcases q with q|⟨k,c',e,z'⟩;exact .inl q;refine .inr ⟨k,c',e,z'.sameBut f ?_⟩;rintro rfl;exact O (zg9 hN l (I.ok.inj _ _ _ e t▸U));by_cases hcc:c'=c;subst hcc;exact⟨_,hc'⟩;obtain⟨w2,z2⟩:=I.cell y c' e;exact⟨w2,z2.sameBut f hcc⟩;obtain⟨e,n,ne,nf,d⟩:=I.pin p hp;refine⟨(f.2 p.1 ?_).trans e,n,ne,nf,d⟩;intro q;rw[q,hoc]at e;have q':=Option.some.inj e;exact d w' (by rw[<-q'];exact hocd)
theorem zgT(I:Inv X pins σ H s)(a:X.N.Nodup)(b:X.N[i]?=Φ x)(c:Loc X.env.scope x)(r:RelV v u)(h:∀s',Inv X pins (σ.set i (Φ v)) H s'->Q () s')(d:X.fn x=Γ\/X.env.scope.names.lookup x=Φ .local:=by first|exact .inl rfl|exact .inr rfl|assumption):wpAny M A (storeName X.env x u) Q E s:=
 zfd I a b c r (λs' e _=>h s' e) d
theorem Inv.call'(I:Inv X pins σ H s)(d:s'.os=s.os)(u:Un (frs X.stack) ch H H' s.heap s'.heap)(hok:HOk X.prog X.w H' s'.heap)(f:AllBare s'.gens)(a:∀b∈ch,(b∈X.ex\/X.s₀.heap.objs.size<=b)/\b≠X.env.locals/\(∀x c,X.env.cells.lookup x=Φ c->c≠b)/\∀p∈X.pn++pins,p.1≠b):Inv X pins σ H' s':=by
 obtain⟨h',h,i,j,g⟩:=s';have e:=d;subst e;exact I.call u hok f a
end
abbrev XK:=Λ->Option Addr->Hp->Prop
abbrev St:=List (Option V)
abbrev VK:=V->Hp->Prop
abbrev TE:=St->Hp->VK->Prop
abbrev TT:=St->Hp->(Bool->Hp->Prop)->Prop
abbrev TA:=St->Hp->(List V->Hp->Prop)->Prop
structure Ends where
 nx:St->Hp->Prop
 rt:VK
 bk:St->Hp->Prop:=λ_ _=>False
 ct:St->Hp->Prop:=λ_ _=>False
abbrev TS:=Ends->St->Hp->Prop
def EP(X:Cx)(a:List (Addr×Obj))(σ:St)(Q:VK)(u:Λ)(s':Η):Prop:=∃v b,Inv X a σ b s'/\RelV v u/\Q v b
def TP(X:Cx)(a:List (Addr×Obj))(σ:St)(Q:Bool->Hp->Prop)(b:Bool)(s':Η):Prop:=∃c,Inv X a σ c s'/\Q b c
def AP(X:Cx)(a:List (Addr×Obj))(σ:St)(Q:List V->Hp->Prop)(us:List Λ)(s':Η):Prop:=∃b c,Inv X a σ c s'/\Vals b us/\Q b c
def SP(X:Cx)(b:List (Addr×Obj))(D:Ends)(f:Flow)(s':Η):Prop:=match f with|.next=>∃a c,Inv X b a c s'/\D.nx a c|.brk=>∃a c,Inv X b a c s'/\D.bk a c|.cont=>∃a c,Inv X b a c s'/\D.ct a c|.ret u=>∃v a c,Inv X b a c s'/\RelV v u/\D.rt v c
def PE(X:Cx)(e:Expr)(t:TE):Prop:=∀(a:List (Addr×Obj))(s:Η)(b:St)(H:Hp)(Q:VK),Inv X a b H s->t b H Q->wpAny (model X.prog X.w) X.A (eval e X.env) (EP X a b Q) X.xe s
def PT(X:Cx)(e:Expr)(t:TT):Prop:=∀(a:List (Addr×Obj))(s:Η)(b:St)(H:Hp)(Q:Bool->Hp->Prop),Inv X a b H s->t b H Q->wpAny (model X.prog X.w) X.A (isTrue e X.env (eval e X.env)) (TP X a b Q) X.xe s
def PW(X:Cx)(e:Expr)(t:TT):Prop:=∀(b:Sem Λ)(a:List (Addr×Obj))(s:Η)(c:St)(H:Hp)(Q:Bool->Hp->Prop),Inv X a c H s->t c H Q->wpAny (model X.prog X.w) X.A (isTrue e X.env b) (TP X a c Q) X.xe s
theorem PW.pt(h:PW X e t):PT X e t:=h _
def PA(X:Cx)(es:List Expr)(t:TA):Prop:=∀(pos:Pos)(a:List (Addr×Obj))(s:Η)(b:St)(H:Hp)(Q:List V->Hp->Prop),Inv X a b H s->t b H Q->wpAny (model X.prog X.w) X.A (spliced (backTo pos (starEach es X.env))) (AP X a b Q) X.xe s
def PS(X:Cx)(st:Stmt)(t:TS):Prop:=∀(a:List (Addr×Obj))(s:Η)(b:St)(H:Hp)(D:Ends),Inv X a b H s->t D b H->wpAny (model X.prog X.w) X.A (exec st X.env) (SP X a D) X.xe s
def PSs(X:Cx)(st:List Stmt)(t:TS):Prop:=∀(a:List (Addr×Obj))(s:Η)(b:St)(H:Hp)(D:Ends),Inv X a b H s->t D b H->wpAny (model X.prog X.w) X.A (execs st X.env) (SP X a D) X.xe s
theorem thn(h:wpAny M A t Q E s)(b:∀a s,Q a s->c a s):wpAny M A t c E s:=Ϥ h b λ_ _ x=>x
section
variable{X:Cx}
theorem bin(l:PE X a m)(n:PE X b o){R:V->V->Hp->Prop}(I:Inv X c e H s)(h:m e H λx k=>o e k λy d=>R x y d){Q}{f:Λ->Λ->Sem E}(p:∀v u j x y d,Inv X c e d j->RelV x v->RelV y u->R x y d->wpAny (model X.prog X.w) X.A (f v u) Q X.xe j):
  wpAny (model X.prog X.w) X.A (eval a X.env) (λv g=>wpAny (model X.prog X.w) X.A (eval b X.env) (λu i=>wpAny (model X.prog X.w) X.A (f v u) Q X.xe i) X.xe g) X.xe s:=by
 refine thn (l c s e H _ I h) λv q z=>?_;obtain⟨x,k,r,t,w⟩:=z;refine thn (n c q e k _ r w) λu j z=>?_;obtain⟨y,d,A,B,C⟩:=z;exact p v u j x y d A t B C
def tVar(i:Nat):TE:=λa H Q=>∃v,a[i]?=Φ (Φ v)/\Q v H
def tC(v:V):TE:=λ_ H Q=>Q v H
theorem zpW(j:X.N[i]?=Φ x)(k:Vis X.env.scope x)(hd:(x==("__debug__":Str))=Δ:=by decide)(f:(x==("__classdict__":Str))=Δ:=by decide):PE X (.Name x pos) (tVar i):=by intro d s n H Q I h;obtain⟨v,e,h⟩:=h;obtain⟨m,o,p⟩:=I.loc;obtain⟨u,r,l⟩:=p i x v j e k;have fin:EP X d n Q u s:=⟨v,H,I,r,h⟩;rcases l with⟨b,q⟩|⟨b,c,g,a⟩;exact wpAny_Name (wpAny_loadName_local I.ok.kind b o q fin) hd;rcases b with b|b;exact wpAny_Name (wpAny_loadName_cell I.ok.kind b g a fin) hd;exact wpAny_Name (wpAny_loadName_free I.ok.kind b g a fin f) hd
theorem zp3:PE X (.Constant (.int i) j pos) (tC (.int i)):=λ_ _ _ H _ I h=>wpAny_Constant_int ⟨.int i,H,I.tok _,⟨_,rfl⟩,h⟩
theorem zrN:PE X (.Constant (.bool b) j pos) (tC (.bl b)):=λ_ _ _ H _ I h=>Constant_bool ⟨.bl b,H,I,rfl,h⟩
theorem zp1:PE X (.Constant .none j pos) (tC .non):=λ_ _ _ H _ I h=>Constant_none ⟨.non,H,I,rfl,h⟩
theorem zpY:PE X (.Constant (.str x) j pos) (tC (.str x)):=λ_ _ _ H _ I h=>Calls.Constant_str ⟨.str x,H,I.tok _,⟨_,rfl⟩,h⟩
def Gl(X:Cx)(x:Str):Prop:=X.env.kindOf x=Φ .globalImplicit
theorem zdC(I:Inv X a σ H s)(b:Gl X x)(c:X.mg x=Φ u)(h:Q u s)(hd:(x==("__debug__":Str))=Δ:=by decide):wpAny (model X.prog X.w) X.A (eval (.Name x pos) X.env) Q E s:=
 Calls.Name_function_global I.ok.kind b (Calls.loadGlobal_global (by rw[I.ok.glob];exact I.mod.glob.keeps I.bk) c h) hd
theorem zef(I:Inv X a σ H s)(b:Gl X x)(c:X.mg x=Ψ)(d:bootBuiltins x=Φ u)(h:Q u s)(e:x≠"__name__":=by decide)(hd:(x==("__debug__":Str))=Δ:=by decide):wpAny (model X.prog X.w) X.A (eval (.Name x pos) X.env) Q E s:=by
 obtain⟨i,f,g⟩:=I.mod.blt;exact Calls.Name_function_global I.ok.kind b (Calls.loadGlobal_builtin (by rw[I.ok.glob];exact I.mod.glob.keeps I.bk) c (by rw[I.ok.blt];exact f.keeps I.bk) ((g x e).trans d) h) hd
theorem znN(a:Gl X x)(b:X.mg x=Φ u)(r:RelV v u)(hd:(x==("__debug__":Str))=Δ:=by decide):PE X (.Name x pos) (tC v):=λ_ _ _ H _ I h=>zdC I a b ⟨v,H,I,r,h⟩ hd
theorem znQ(a:Gl X x)(b:X.mg x=Ψ)(c:bootBuiltins x=Φ u)(r:RelV v u)(d:x≠"__name__":=by decide)(hd:(x==("__debug__":Str))=Δ:=by decide):PE X (.Name x pos) (tC v):=λ_ _ _ H _ I h=>zef I a b c ⟨v,H,I,r,h⟩ d hd
variable{a b:Expr}{ta tb:TE}{pos:Pos}
theorem RelV.none_iff(r:RelV x v):(v==Λ.none)=decide (x=.non):=by cases x with|non=>cases r;rfl|bl _=>cases r;rfl|int _=>obtain⟨t,rfl⟩:=r;rfl|str _=>obtain⟨t,rfl⟩:=r;rfl|byt _=>obtain⟨t,rfl⟩:=r;rfl|flt _=>obtain⟨t,rfl⟩:=r;rfl|ref _=>cases r;rfl|ty _=>cases r;rfl
variable{tA tB':TT}{rest:List Expr}
def tAnd(t u:TT):TT:=λd H Q=>t d H λc e=>if c=Γ then u d e Q else Q Δ e
def tOr(t u:TT):TT:=λd H Q=>t d H λc e=>if c=Γ then Q Γ e else u d e Q
def tNot(t:TT):TT:=λd H Q=>t d H λc e=>Q (!c) e
theorem znz(f:PT X a tA):PW X (.BoolOp .And [a] pos) tA:=by intro i d s g H Q I h;refine isTrue_and (thn (f d s g H Q I h) λc j e=>?_);cases c with|true=>exact isTrue_and_nil e|false=>exact e
theorem zpM(f:PT X a tA):PW X (.BoolOp .Or [a] pos) tA:=by intro i d s g H Q I h;refine isTrue_or (thn (f d s g H Q I h) λc j e=>?_);cases c with|false=>exact isTrue_or_nil e|true=>exact e
theorem zpN(j:PT X a tA)(k:PW X (.BoolOp .And (b::rest) pos) tB'):PW X (.BoolOp .And (a::b::rest) pos) (tAnd tA tB'):=by intro l d s e H Q I h;refine isTrue_and (thn (j d s e H _ I h) λc m z=>?_);obtain⟨f,g,i⟩:=z;cases c with|true=>exact k l d m e f Q g i|false=>exact⟨f,g,i⟩
theorem zrG(j:PT X a tA)(k:PW X (.BoolOp .Or (b::rest) pos) tB'):PW X (.BoolOp .Or (a::b::rest) pos) (tOr tA tB'):=by intro l d s e H Q I h;refine isTrue_or (thn (j d s e H _ I h) λc m z=>?_);obtain⟨f,g,i⟩:=z;cases c with|true=>exact⟨f,g,i⟩|false=>exact k l d m e f Q g i
theorem zpP(e:PT X a tA):PT X (.UnaryOp .Not a pos) (tNot tA):=by intro d s f H Q I h;exact isTrue_not (e d s f H (λc g=>Q (!c) g) I h)
def zrs(ta tb:TE):TE:=λd H Q=>ta d H λx e=>∃c,x=.bl c/\if c=Γ then tb d e Q else Q (.bl Δ) e
def tOrV(ta tb:TE):TE:=λd H Q=>ta d H λx e=>∃c,x=.bl c/\if c=Γ then Q (.bl Γ) e else tb d e Q
def zrp(ta:TE):TE:=λd H Q=>ta d H λx e=>∃c,x=.bl c/\Q (.bl (!c)) e
theorem zml(h:PE X a t):PE X (.BoolOp op [a] pos) t:=λc s d H Q I e=>BoolOp_one (h c s d H Q I e)
theorem zp7(j:PE X a ta)(k:PE X (.BoolOp .And (b::rest) pos) tb):PE X (.BoolOp .And (a::b::rest) pos) (zrs ta tb):=by intro d s f H Q I h;refine BoolOp_and (thn (j d s f H _ I h) λv l z=>?_);obtain⟨x,g,i,m,e⟩:=z;obtain⟨c,rfl,e⟩:=e;cases m;refine Ϟ ?_;cases c with|true=>exact k d l f g Q i e|false=>exact⟨.bl Δ,g,i,rfl,e⟩
theorem zrJ(j:PE X a ta)(k:PE X (.BoolOp .Or (b::rest) pos) tb):PE X (.BoolOp .Or (a::b::rest) pos) (tOrV ta tb):=by intro d s f H Q I h;refine BoolOp_or (thn (j d s f H _ I h) λv l z=>?_);obtain⟨x,g,i,m,e⟩:=z;obtain⟨c,rfl,e⟩:=e;cases m;refine Ϟ ?_;cases c with|false=>exact k d l f g Q i e|true=>exact⟨.bl Γ,g,i,rfl,e⟩
theorem zp0(f:PE X a ta):PE X (.UnaryOp .Not a pos) (zrp ta):=by intro d s g H Q I h;refine UnaryOp_ (thn (f d s g H _ I h) λv l z=>?_);obtain⟨x,i,j,k,e⟩:=z;obtain⟨c,rfl,e⟩:=e;cases k;exact not_of (Ϟ ⟨.bl (!c),i,j,rfl,e⟩)
def tIf(t:TT)(ta tb:TE):TE:=λd H Q=>t d H λc e=>if c=Γ then ta d e Q else tb d e Q
theorem zls(l:PT X c tA)(m:PE X a ta)(n:PE X b tb):PE X (.IfExp c a b pos) (tIf tA ta tb):=by intro e s f H Q I h;refine wpAny_IfExp (thn (l e s f H _ I h) λd g z=>?_);obtain⟨i,j,k⟩:=z;cases d with|true=>exact m e g f i Q j k|false=>exact n e g f i Q j k
end
def SqL(K:Frag)(H:Hp)(a:Addr)(xs:List V):Prop:=
 Rd H a (.lst xs)\/
  ∃(o:Obj) (b:Array Λ) (n:Nat),K.lookup a=Φ o/\o.cls=.type "list"/\o.dict=Ψ/\o.data=.seq b n/\b.size<=sizeLine/\Vals xs b.toList
def SqT(K:Frag)(H:Hp)(a:Addr)(xs:List V):Prop:=
 Rd H a (.tup xs)\/
  ∃(o:Obj) (b:Array Λ) (n:Nat),K.lookup a=Φ o/\o.cls=.type "tuple"/\o.data=.seq b n/\b.size<=sizeLine/\Vals xs b.toList
noncomputable def absV:Λ->Option V
 |.none=>Φ .non|.bool b=>Φ (.bl b)|.int i _=>Φ (.int i)|.str x _=>Φ (.str x)|.bytes b _=>Φ (.byt b)|.float b _=>Φ (.flt b)|.ref a=>Φ (.ref a)|.type n=>Φ (.ty n)|_=>Ψ
theorem RelV.abs(r:RelV x u):absV u=Φ x:=by cases x with|non=>cases r;rfl|bl _=>cases r;rfl|int _=>obtain⟨t,rfl⟩:=r;rfl|str _=>obtain⟨t,rfl⟩:=r;rfl|byt _=>obtain⟨t,rfl⟩:=r;rfl|flt _=>obtain⟨t,rfl⟩:=r;rfl|ref _=>cases r;rfl|ty _=>cases r;rfl
theorem RelV.inj(r:RelV x u)(q:RelV y u):x=y:=Option.some.inj (r.abs.symm.trans q.abs)
theorem Vals.inj{xs ys:List V}{us:List Λ}(h:Vals xs us)(k:Vals ys us):xs=ys:=by induction h generalizing ys with|nil=>cases k;rfl|cons r t i=>cases k with|cons a b=>rw[r.inj a,i b]
section
variable{X:Cx}{pins:List (Addr×Obj)}{σ:St}{H:Hp}{s:Η}{a:Addr}{xs ys:List V}
theorem SqL.of{K}(h:H a=Φ (.lst xs)):SqL K H a xs:=.inl (.inl h)
theorem SqT.of{K}(h:H a=Φ (.tup xs)):SqT K H a xs:=.inl (.inl h)
theorem Inv.list(I:Inv X pins σ H s)(h:SqL X.K H a xs):∃its:List Λ,Vals xs its/\PlainL s.heap a its.toArray/\xs.length<=sizeLine:=by rcases h with h|⟨o,its,n,b,c,d,f,g,r⟩;obtain⟨z,its,n,r,e⟩:=h.ok I.hok;exact⟨its,r,⟨_,n,e,rfl,rfl,rfl⟩,z⟩;refine⟨its.toList,r,⟨o,n,I.kIn a o b,c,d,by simpa using f⟩,?_⟩;have e:=r.length;simp only[length_toList]at e;lia
theorem Inv.tuple(I:Inv X pins σ H s)(h:SqT X.K H a xs):∃its:List Λ,Vals xs its/\IsTup s.heap a its.toArray/\xs.length<=sizeLine:=by rcases h with h|⟨o,its,n,b,c,d,f,r⟩;obtain⟨z,its,r,p⟩:=h.ok I.hok;exact⟨its,r,p,z⟩;refine⟨its.toList,r,⟨o,I.kIn a o b,c,n,by simpa using d⟩,?_⟩;have e:=r.length;simp only[length_toList]at e;lia
theorem Inv.list_inj(I:Inv X pins σ H s)(h:SqL X.K H a xs)(h':SqL X.K H a ys):xs=ys:=by
 obtain⟨c,r,⟨o,n,e,_,_,d⟩,_⟩:=I.list h;obtain⟨b,i,⟨k,l,f,_,_,g⟩,_⟩:=I.list h';rw[e]at f;cases f;rw[d]at g;injection g with j _;have:c=b:=by simpa using congrArg Array.toList j
 subst this;exact r.inj i
theorem Inv.tuple_inj(I:Inv X pins σ H s)(h:SqT X.K H a xs)(h':SqT X.K H a ys):xs=ys:=by
 obtain⟨c,r,⟨o,e,_,n,d⟩,_⟩:=I.tuple h;obtain⟨b,i,⟨k,f,_,l,g⟩,_⟩:=I.tuple h';rw[e]at f;cases f;rw[d]at g;injection g with j _;have:c=b:=by simpa using congrArg Array.toList j
 subst this;exact r.inj i
end
noncomputable abbrev Cx.wish(X:Cx)(E:Λ->Η->Prop):Cx:={X with xe:=E}
noncomputable abbrev Cx.nox(X:Cx):Cx:=X.wish λ_ _=>False
theorem Cx.Ok.wish{X:Cx}(ok:X.Ok)(E):(X.wish E).Ok:=⟨ok.mod,ok.kind,ok.glob,ok.blt,ok.above,ok.inj,ok.has,ok.cab,ok.hd,ok.frames,ok.stk,ok.exf,ok.bs,ok.bsz,ok.noex,ok.exfs,ok.funs,ok.frf⟩
theorem Cx.Ok.unwish{X:Cx}(ok:(X.wish E).Ok):X.Ok:=⟨ok.mod,ok.kind,ok.glob,ok.blt,ok.above,ok.inj,ok.has,ok.cab,ok.hd,ok.frames,ok.stk,ok.exf,ok.bs,ok.bsz,ok.noex,ok.exfs,ok.funs,ok.frf⟩
section
variable{X:Cx}{pins:List (Addr×Obj)}{σ:St}{H:Hp}{s:Η}{E:Λ->Η->Prop}
theorem Inv.wish(I:Inv X pins σ H s)(E):Inv (X.wish E) pins σ H s:=⟨I.ok.wish E,I.os,I.bare,I.base,I.loc,I.cell,I.free,I.freeC,I.pin,I.hok,I.len⟩
theorem Inv.unwish(I:Inv (X.wish E) pins σ H s):Inv X pins σ H s:=⟨I.ok.unwish,I.os,I.bare,I.base,I.loc,I.cell,I.free,I.freeC,I.pin,I.hok,I.len⟩
theorem SP.unwish(h:SP (X.wish E) pins D f s'):SP X pins D f s':=by cases f with|next=>obtain⟨a,b,I,q⟩:=h;exact⟨a,b,I.unwish,q⟩|brk=>obtain⟨a,b,I,q⟩:=h;exact⟨a,b,I.unwish,q⟩|cont=>obtain⟨a,b,I,q⟩:=h;exact⟨a,b,I.unwish,q⟩|ret u=>obtain⟨v,a,b,I,r,q⟩:=h;exact⟨v,a,b,I.unwish,r,q⟩
theorem PSs.nox{st}(h:PSs X.nox st t):PSs X st t:=λpins s σ H D I a=>Ϥ (h pins s σ H D (I.wish _) a) (λ_ _ q=>q.unwish) λ_ _ z=>False.elim z
end
section
variable{X:Cx}{st:Stmt}{rest:List Stmt}{t u:TS}{e:Expr}{te:TE}{pos:Pos}
def zrq:TS:=λD a H=>D.nx a H
def tSeq(t u:TS):TS:=λD a H=>t {D with nx:=u D} a H
theorem znG:PSs X [] zrq:=λ_ _ a H _ I h=>wpAny_execs_nil ⟨a,H,I,h⟩
theorem zaX(c:PS X st t)(d:PSs X rest u):PSs X (st::rest) (tSeq t u):=by intro a s g H D I h;refine wpAny_execs_cons (thn (c a s g H {D with nx:=u D} I h) λf i q=>?_);cases f with| next=>obtain⟨b,j,k,q⟩:=q;exact d a i b j D k q|ret v=>exact q|brk=>exact q|cont=>exact q
theorem Inv.quiet(I:Inv X a b H s):interactive X.env=Δ:=by simp[interactive,I.ok.kind]
def zrr(te:TE):TS:=λD a H=>te a H λ_ b=>D.nx a b
theorem znI(he:PE X e te)(hs:swapsWith e Ψ pos.line X.env=pure Δ:=by rfl):PS X (.Expr e pos) (zrr te):=by intro pins s σ H D I h;exact wpAny_Expr_any (thn (he pins s σ H _ I h) λv s1 z=>(by obtain⟨x,H1,I1,r1,q1⟩:=z;exact ⟨σ,H1,I1,q1⟩)) I.quiet hs
def tRet(te:TE):TS:=λD a H=>te a H D.rt
theorem zpQ(c:PE X e te):PS X (.Return (Φ e) pos) (tRet te):=by intro a s b H D I h;exact wpAny_Return_some (thn (c a s b H _ I h) λv j z=>(by obtain⟨x,d,f,g,i⟩:=z;exact ⟨x,b,d,f,g,i⟩))
def tIfS(c:TT)(t u:TS):TS:=λD a H=>c a H λb d=>if b=Γ then t D a d else u D a d
theorem zrH(m:PT X c n)(o:PSs X a t)(p:PSs X b u):PS X (.If c a b pos) (tIfS n t u):=by intro f s g H D I h;refine wpAny_If (thn (m f s g H _ I h) λd i z=>?_);obtain⟨j,k,l⟩:=z;cases d with|true=>exact o f i g j D k l|false=>exact p f i g j D k l
end
abbrev TG:=V->St->Hp->(St->Hp->Prop)->Prop
abbrev TGs:=List V->St->Hp->(St->Hp->Prop)->Prop
def PG(X:Cx)(a:Expr)(t:TG):Prop:=
 ∀(b:List (Addr×Obj))(s:Η)(d:St)(H:Hp)(v:V)(u:Λ)(Q:St->Hp->Prop),Inv X b d H s->RelV v u->t v d H Q->
  wpAny (model X.prog X.w) X.A (assign a X.env u) (λ_ f=>∃c e,Inv X b c e f/\Q c e) X.xe s
def PGs(X:Cx)(ts:List Expr)(t:TGs):Prop:=
 ∀(a:List (Addr×Obj))(s:Η)(c:St)(H:Hp)(d:List V)(e:List Λ)(Q:St->Hp->Prop),Inv X a c H s->Vals d e->t d c H Q->
  wpAny (model X.prog X.w) X.A (assignInOrder ((assignEach ts X.env).map (·.2)) e) (λ_ g=>∃b f,Inv X a b f g/\Q b f) X.xe s
abbrev TSet:=V->V->V->Hp->(Hp->Prop)->Prop
def PSet(X:Cx)(t:TSet):Prop:=
 ∀(a:List (Addr×Obj))(s:Η)(b:St)(H:Hp)(o i v:V)(c d u:Λ)(Q:Hp->Prop),Inv X a b H s->RelV o c->RelV i d->RelV v u->t o i v H Q->
  wpAny (model X.prog X.w) X.A (setItem c d u) (λ_ f=>∃e,Inv X a b e f/\Q e) X.xe s
section
variable{X:Cx}{pos:Pos}
def zke(i:Nat):TG:=λv a H Q=>Q (a.set i (Φ v)) H
theorem zjm(b:X.N.Nodup)(c:X.N[i]?=Φ x)(d:Loc X.env.scope x)(e:X.fn x=Γ\/X.env.scope.names.lookup x=Φ .local:=by first|exact .inl rfl|exact .inr rfl|assumption):PG X (.Name x pos) (zke i):=by intro a s g H v u Q I r h;exact wpAny_assign_Name (zgT I b c d r (λj f=>⟨_,H,f,h⟩) e)
def gNil:TGs:=λa b H Q=>a=[]/\Q b H
def zr7(t:TG)(u:TGs):TGs:=λb c H Q=>∃v r,b=v::r/\t v c H λa d=>u r a d Q
theorem znL:PGs X [] gNil:=by intro a s b H c d Q I r h;obtain⟨e,h⟩:=h;subst e;cases r;exact assignInOrder_nil ⟨b,H,I,h⟩
theorem zln(c:PG X e t)(d:PGs X es u)(f:(assignEach (e::es) X.env).map (·.2)=assign e X.env::(assignEach es X.env).map (·.2):=by rfl):PGs X (e::es) (zr7 t u):=by
 intro a s g H o p Q I r h;obtain⟨v,q,i,h⟩:=h;subst i;cases r with| cons r j=>rw[f];refine assignInOrder_cons (thn (c a s g H _ _ _ I r h) λ_ k z=>?_);obtain⟨b,l,m,n⟩:=z;exact d a k b l _ _ Q m j n
def gTup(K:Frag)(n:Nat)(t:TGs):TG:=λv c H Q=>∃a b,v=.ref a/\SqT K H a b/\b.length=n/\t b c H Q
theorem zpV(j:X.calm=Γ)(h:PGs X es t)(l:(assignEach es X.env).length=n:=by rfl)(d:(assignEach es X.env).findIdx? (·.1)=Ψ:=by rfl):PG X (.Tuple es k pos) (gTup X.K n t):=by
 intro c s g H v u Q I r f;obtain⟨a,m,p,q,w,f⟩:=f;subst p;cases r;obtain⟨x,i,y,C⟩:=I.tuple q;refine assign_Tuple_tuple (I.ok.hd j) y (by simp[l,<-w,i.length]) d λz A=>?_;have B:Inv X c g H {s with heap:=z}:=I.kept (t':=s.toks) λb o e=>A b o (ne_of_lt (Κ e)) e;exact h c _ g H m _ Q B (by simpa using i) f
def tAsg(b:TE)(g:TG):TS:=λD a H=>b a H λx c=>g x a c D.nx
theorem zpT(he:PE X e te)(hg:PG X tg g)(hs:swapsWithSole [tg] e pos.line X.env=pure Δ:=by rfl)(hw:swappedStores [tg] e X.env=pure Ψ:=by rfl)(h1:(assignEach [tg] X.env).map (·.2)=[assign tg X.env]:=by rfl):PS X (.Assign [tg] e pos) (tAsg te g):=by
 intro pins s σ H D I h;refine wpAny_Assign_stores (thn (he pins s σ H _ I h) λv s1 z=>?_) hs hw;obtain⟨x,H1,I1,r1,q1⟩:=z;rw[h1];exact thn (hg pins s1 σ H1 x v _ I1 r1 q1) λ_ s2 q=>q
theorem zmk(hN:X.N.Nodup)(hi:X.N[i]?=Φ x)(hx:Loc X.env.scope x)(he:PE X e te)(hs:swapsWith e (Φ (.Name x pos')) pos.line X.env=pure Δ:=by rfl)(hf:X.fn x=Γ\/X.env.scope.names.lookup x=Φ .local:=by first|exact .inl rfl|exact .inr rfl|assumption):
  PS X (.Assign [.Name x pos'] e pos) (tAsg te (zke i)):=by
 intro pins s σ H D I h;refine wpAny_Assign_Name (thn (he pins s σ H _ I h) λv s1 z=>?_) hs;obtain⟨y,H1,I1,r1,q1⟩:=z;exact zgT I1 hN hi hx r1 (λs2 I2=>⟨_,H1,I2,q1⟩) hf
end
structure It where
 go:Nat->Hp->Prop
 yld:Nat->Hp->V->Hp->Prop
 stop:Nat->Hp->Prop
def FpOk(X:Cx)(a:List (Addr×Obj))(H:Hp)(b:Addr):Prop:=H b=Ψ/\b≠X.env.locals/\b∉X.fs/\(b∈X.ex\/X.s₀.heap.objs.size<=b)/\(∀x c,X.env.cells.lookup x=Φ c->c≠b)/\∀p∈X.pn++a,p.1≠b
theorem Inv.fpOk(I:Inv X a h H s)(d:s.heap.objs.size<=b)(f:H' b=Ψ):FpOk X a H' b:=by refine⟨f,ne_of_gt (lt_of_lt_of_le I.lt d),I.nofs d,.inr (le_trans I.sz d),λx c e z=>?_,λp g z=>?_⟩;obtain⟨v,q⟩:=I.cell x c e;exact absurd (lt_of_lt_of_le q.lt (by rw[z];exact d)) (lt_irrefl _);exact absurd (lt_of_lt_of_le (Κ (I.pin p g).1) (by rw[z];exact d)) (lt_irrefl _)
structure Turn(P:Τ)(w:ϐ)(K:Frag)(tg:Expr)(J:It)(fp:List Addr)(it:Addr)(tn:Nat->Heap->Prop):Prop where
 mem:it∈fp
 obj:∀i h,tn i h->∀b∈fp,∃o,h.get? b=Φ o/\∀v,o.data≠.cell v
 keep:∀i h h',tn i h->(∀b∈fp,∀o,h.get? b=Φ o->h'.get? b=Φ o)->tn i h'
 item:∀(X:Cx),X.prog=P->X.w=w->X.K=K->X.calm=Γ->∀(i:Nat)(pins:List (Addr×Obj))(s:Η)(σ:St)(H:Hp)(E:Λ->Η->Prop),Inv X pins σ H s->(∀b∈fp,FpOk X pins H b)->tn i s.heap->J.go i H->
  wpAny (model P w) X.A (pyNext (.ref it)) (λr s1=>∃u,r=Φ u/\
   wpAny (model P w) X.A (letOwnedTupleGo tg (.ref it) u) (λ_ s2=>∃x H',Inv X pins σ H' s2/\RelV x u/\J.yld i H x H'/\tn (i+1) s2.heap/\∀b∈fp,H' b=Ψ) E s1) E s
 done:∀(X:Cx),X.prog=P->X.w=w->X.K=K->X.calm=Γ->∀(i:Nat)(pins:List (Addr×Obj))(s:Η)(σ:St)(H:Hp)(E:Λ->Η->Prop),Inv X pins σ H s->(∀b∈fp,FpOk X pins H b)->tn i s.heap->J.stop i H->
  wpAny (model P w) X.A (pyNext (.ref it)) (λr s1=>r=Ψ/\Inv X pins σ H s1) E s
 self:∀(A:ϑ)(i:Nat)(s:Η)(Q:Λ->Η->Prop)(E:Λ->Η->Prop),tn i s.heap->Q (.ref it) s->wpAny (model P w) A (pyIter (.ref it)) Q E s
abbrev TI:=St->Hp->(It->Hp->Prop)->Prop
def PIE(X:Cx)(a:List (Addr×Obj))(σ:St)(i:Expr)(R:It->Hp->Prop)(c:Λ)(e:Η):Prop:=∃(f:Addr) (g:List Addr) (h:Nat->Heap->Prop) (J:It) (d:Hp),c=.ref f/\Inv X a σ d e/\Turn X.prog X.w X.K i J g f h/\h 0 e.heap/\(∀b∈g,FpOk X a d b)/\R J d
def PI(X:Cx)(d b:Expr)(e:TI):Prop:=
 ∀(a:List (Addr×Obj))(s:Η)(c:St)(H:Hp)(R:It->Hp->Prop),Inv X a c H s->e c H R->
  wpAny (model X.prog X.w) X.A (eval b X.env) (λv f=>wpAny (model X.prog X.w) X.A (pyIter v) (PIE X a c d R) X.xe f) X.xe s
theorem zok(b:s.heap.get? it=Φ o)(c:o.cls=.type n)(hd:o.data=.fields vs)(d:["enumerate","zip","dict_itemiterator","dict_reverseitemiterator","odict_iterator","itertools.zip_longest","itertools.pairwise"].contains n=Δ)(a:Q () s):wpAny M A (letOwnedTupleGo e (.ref it) u) Q E s:=by
 unfold letOwnedTupleGo;cases e<;>first
  |exact Ξ a
  |(cases u<;>first
   |exact Ξ a
   | (refine Θ (wpAny_load b ?_)
      rw[c,hd];show wpAny M A (if(["enumerate","zip","dict_itemiterator","dict_reverseitemiterator","odict_iterator","itertools.zip_longest","itertools.pairwise"].contains n&&vs[0]?==Φ (rawInt _))=Γ then _ else _) Q E s;rw[if_neg (by intro h;rw[d,Bool.false_and]at h;exact nB h)];exact Ξ a))
noncomputable def Itl(K:Frag)(a:Addr):It:=⟨λi H=>∃b x,SqL K H a b/\b[i]?=Φ x,λi H x c=>c=H/\∀b,SqL K H a b->b[i]?=Φ x,λi H=>∃b,SqL K H a b/\b.length<=i⟩
noncomputable def Itt(K:Frag)(a:Addr):It:=⟨λi H=>∃b x,SqT K H a b/\b[i]?=Φ x,λi H x c=>c=H/\∀b,SqT K H a b->b[i]?=Φ x,λi H=>∃b,SqT K H a b/\b.length<=i⟩
noncomputable def Itr(lo:Int)(n:Nat):It:=⟨λi _=>i<n,λi H x a=>a=H/\x=.int (lo+i),λi _=>n<=i⟩
theorem ziH{P:Τ}{w:ϐ}{K:Frag}{tg:Expr}(a it:Addr):Turn P w K tg (Itl K a) [it] it (λi h=>h.IsListIter it a i) where
 mem:=by simp
 obj:=λi h st b hb=>by
  have e:b=it:=by simpa using hb
  subst e;obtain⟨o,e,c,d⟩:=st;exact⟨o,e,λv z=>by rw[d]at z;cases z⟩
 keep:=λi h h' st k=>st.at λo e=>k it (by simp) o e
 item:=by intro X hP hw hK hc i pins s σ H E I hf st hg;subst hP hw hK;obtain⟨xs,x,hq,hx⟩:=hg;obtain⟨its,rv,p,hz⟩:=I.list hq;obtain⟨u,hu,ru⟩:=rv.get hx;obtain⟨f0,f1,f2,f3,f4,f5⟩:=hf it (by simp);refine wpAny_pyNext_list_item st p.isList (x:=u) (by simpa using hu) λh' st' sb=>?_;have I1:Inv X pins σ H {s with heap:=h'}:=I.turned (t':=s.toks) (λb o hb e=>(sb.2 b hb).trans e) f0 f1 f3 f4 f5;obtain⟨o,e,c,d⟩:=id st';exact⟨u,rfl,zok (s:={s with heap:=h'}) e c d (by decide) ⟨x,H,I1,ru,⟨rfl,λys hy=>by rw[I.list_inj hy hq];exact hx⟩,st',λb hb=>(hf b hb).1⟩⟩
 done:=by intro X hP hw hK hc i pins s σ H E I hf st hg;subst hP hw hK;obtain⟨xs,hq,hx⟩:=hg;obtain⟨its,rv,p,hz⟩:=I.list hq;obtain⟨f0,f1,f2,f3,f4,f5⟩:=hf it (by simp);have hl:=rv.length;exact wpAny_pyNext_list_end (I.ok.hd hc) st p.isList (by simp;lia) λh' eb=>⟨rfl,I.turned (t':=s.toks) (λb o hb e=>eb b o hb e) f0 f1 f3 f4 f5⟩
 self:=λ_ _ _ _ _ st h=>wpAny_pyIter_listiter st h
theorem zhH{P:Τ}{w:ϐ}{K:Frag}{tg:Expr}(a it:Addr):Turn P w K tg (Itt K a) [it] it (λi h=>h.IsTupleIter it a i) where
 mem:=by simp
 obj:=λi h st b hb=>by
  have e:b=it:=by simpa using hb
  subst e;obtain⟨o,e,c,d⟩:=st;exact⟨o,e,λv z=>by rw[d]at z;cases z⟩
 keep:=λi h h' st k=>st.at λo e=>k it (by simp) o e
 item:=by intro X hP hw hK hc i pins s σ H E I hf st hg;subst hP hw hK;obtain⟨xs,x,hq,hx⟩:=hg;obtain⟨its,rv,p,hz⟩:=I.tuple hq;obtain⟨u,hu,ru⟩:=rv.get hx;obtain⟨f0,f1,f2,f3,f4,f5⟩:=hf it (by simp);refine wpAny_pyNext_tuple_item st (show s.heap.IsTuple a its.toArray from p) (x:=u) (by simpa using hu) λh' st' sb=>?_;have I1:=I.turned (t':=s.toks) (λb o hb e=>(sb.2 b hb).trans e) f0 f1 f3 f4 f5;obtain⟨o,e,c,d⟩:=id st';exact⟨u,rfl,zok e c d (by decide) ⟨x,H,I1,ru,⟨rfl,λys hy=>by rw[I.tuple_inj hy hq];exact hx⟩,st',λb hb=>(hf b hb).1⟩⟩
 done:=by intro X hP hw hK hc i pins s σ H E I hf st hg;subst hP hw hK;obtain⟨xs,hq,hx⟩:=hg;obtain⟨its,rv,p,hz⟩:=I.tuple hq;obtain⟨f0,f1,f2,f3,f4,f5⟩:=hf it (by simp);have hl:=rv.length;exact wpAny_pyNext_tuple_end (I.ok.hd hc) st (show s.heap.IsTuple a its.toArray from p) (by simp;lia) λh' eb=>⟨rfl,I.turned (t':=s.toks) (λb o hb e=>eb b o hb e) f0 f1 f3 f4 f5⟩
 self:=λ_ _ _ _ _ st h=>wpAny_pyIter_tupleiter st h
theorem zhI{P:Τ}{w:ϐ}{K:Frag}{tg:Expr}(it:Addr)(lo:Int)(n:Nat):Turn P w K tg (Itr lo n) [it] it (λi h=>IsRangeIter h it (lo+(i:Nat)*1) ((n:Int)-(i:Nat)) 1) where
 mem:=by simp
 obj:=λi h st b hb=>by
  have e:b=it:=by simpa using hb
  subst e;exact⟨_,st,λv z=>by have z':=z;cases z'⟩
 keep:=λi h h' st k=>k it (by simp) _ st
 item:=by intro X hP hw hK hc i pins s σ H E I hf st hg;subst hP hw hK;obtain⟨f0,f1,f2,f3,f4,f5⟩:=hf it (by simp);have W:=Walks.range (prog:=X.prog) (w:=X.w) (I.ok.hd hc) it lo 1 n;refine W.item i s _ _ hg st λv h' tk hv st' kk=>?_;obtain⟨t,rfl⟩:=hv;have I1:Inv X pins σ H {s with heap:=h',toks:=tk}:=I.turned (λb o hb e=>kk b o (by simpa using hb) e) f0 f1 f3 f4 f5;refine⟨_,rfl,zok st' rfl rfl (by decide) ⟨.int (lo+i),H,I1,⟨t,?_⟩,⟨rfl,rfl⟩,st',λb hb=>(hf b hb).1⟩⟩;rw[Int.mul_one]
 done:=by intro X hP hw hK hc i pins s σ H E I hf st hg;obtain⟨f0,f1,f2,f3,f4,f5⟩:=hf it (by simp);exact wpAny_pyNext_range_end (I.ok.hd hc) st (by have:n<=i:=hg;lia) λh' eb=>⟨rfl,I.turned (λb o hb e=>eb b o hb e) f0 f1 f3 f4 f5⟩
 self:=λ_ _ _ _ _ st h=>wpAny_pyIter_rangeiter st h
section
variable{X:Cx}{tg:Expr}
theorem zg5{lo a}(I:Inv X c σ H s)(f:-(2^62)<=lo)(g:lo<2^62)(h:-(2^62)<=a)(i:a<2^62)(q:R (Itr lo (a-lo).toNat) H):wpAny (model X.prog X.w) X.A (pyIter (.ref s.heap.objs.size)) (PIE X c σ tg R) E {s with heap:=s.heap.push {cls:=.type "range",data:=.fields #[.int lo t,.int a u,.int 1 v]},toks:=j}:=by
 refine wpAny_pyIter_range (IsRange.new ..) (small_one f g h i) ?_;have d:Inv X c σ H {s with heap:=s.heap.push {cls:=.type "range",data:=.fields #[.int lo t,.int a u,.int 1 v]},toks:=j}:=I.kept λb o e=>Ω _ e;refine⟨(s.heap.push {cls:=.type "range",data:=.fields #[.int lo t,.int a u,.int 1 v]}).objs.size,[(s.heap.push {cls:=.type "range",data:=.fields #[.int lo t,.int a u,.int 1 v]}).objs.size],_,_,H,rfl,
  d.kept λb o e=>Ω _ e,zhI _ lo (a-lo).toNat,?_,λb k=>?_,q⟩
 have l:lo+((0:Nat):Int)*1=lo:=by simp
 have m:(((a-lo).toNat:Nat):Int)-((0:Nat):Int)=Builtin.Range.rangeSize lo a 1:=by rw[rangeSize_one];split<;>lia
 rw[l,m];exact Ι _ rfl;have e:b=(s.heap.push {cls:=.type "range",data:=.fields #[.int lo t,.int a u,.int 1 v]}).objs.size:=by simpa using k
 subst e;exact d.fpOk (le_refl _) (d.hok.fresh (le_refl _))
def zr6(a:TA):TI:=λb H R=>a b H λc d=>∃j:Int,c=[.int j]/\-(2^62)<=j/\j<2^62/\R (Itr 0 j.toNat) d
def zr5(a:TA):TI:=λb H R=>a b H λc d=>∃i j:Int,c=[.int i,.int j]/\(-(2^62)<=i/\i<2^62/\-(2^62)<=j/\j<2^62)/\R (Itr i (j-i).toNat) d
theorem zjl(d:Gl X "range")(f:X.mg "range"=Ψ)(g:PA X [a] i)(k:starEach [a] X.env=[(Δ,eval a X.env)]:=by rfl):PI X tg (.Call (.Name "range" p) [a] [] pos) (zr6 i):=by intro b s l H R I h;refine Call_ (zef I d f boot_range (PyProof.Rows.callWith_type1 (thn (g pos b s l H _ I h) λv w z=>?_) k rfl));obtain⟨x,y,m,n,c⟩:=z;obtain⟨j,e,c,o,q⟩:=c;subst e;cases n with| cons r u=>cases u;obtain⟨t,rfl⟩:=r;exact call_range_1 (zg5 m (by lia) (by lia) c o (by simpa using q))
theorem zjk(k:Gl X "range")(l:X.mg "range"=Ψ)(m:PA X [a,b] n)(o:starEach [a,b] X.env=[(Δ,eval a X.env),(Δ,eval b X.env)]:=by rfl)(c:starEach [b] X.env=[(Δ,eval b X.env)]:=by rfl):
  PI X tg (.Call (.Name "range" p) [a,b] [] pos) (zr5 n):=by
 intro d s u H R I h;refine Call_ (zef I k l boot_range (PyProof.Rows.callWith_type1 (thn (m pos d s u H _ I h) λC E z=>eY z λG J v w f=>?_) (by rw[o,c]) (by rw[c];rfl)));obtain⟨i,j,e,⟨f,x,y,A⟩,q⟩:=f;subst e;cases w with| cons r g=>cases g with| cons B g=>cases g;obtain⟨t,rfl⟩:=r;obtain⟨L,rfl⟩:=B;exact call_range_2 (zg5 v f x y A q)
def tFor(f:TI)(g:TG)(h:TS):TS:=λD a H=>f a H λJ j=>∃W:Nat->Nat->St->Hp->Prop,(∃m,W 0 m a j)/\∀i m a H,W i m a H->
 (J.stop i H/\D.nx a H)\/(J.go i H/\∃N:St->Hp->Prop,(∀b c,N b c->∃e,e<m/\W (i+1) e b c)/\∀x c,J.yld i H x c->g x a c λd k=>h {D with nx:=N,ct:=N,bk:=D.nx} d k)
noncomputable def zft(a:List Addr)(h:Heap):List (Addr×Obj):=a.filterMap λb=>(h.get? b).map λo=>(b,o)
theorem zbZ(a:b∈c)(e:h.get? b=Φ o):(b,o)∈zft c h:=List.mem_filterMap.mpr ⟨b,a,by rw[e];rfl⟩
theorem zjt(a:p∈zft c h):p.1∈c/\h.get? p.1=Φ p.2:=by
 obtain⟨b,d,e⟩:=List.mem_filterMap.mp a;cases q:h.get? b with
 |none=>rw[q]at e;exact nS e
 |some o=>rw[q]at e;have f:=Option.some.inj e;subst f;exact⟨d,q⟩
theorem Inv.pinned(I:Inv X a σ H s)(h:∀b∈c,FpOk X a H b)(i:∀b∈c,∃o,s.heap.get? b=Φ o/\∀v,o.data≠.cell v):Inv X (a++zft c s.heap) σ H s:=I.pins_of λp j=>(mem_append.mp j).elim (λz=>I.pin p (mem_append_right _ z)) λz=>by obtain⟨f,e⟩:=zjt z;obtain⟨k,l,m,_⟩:=h p.1 f;obtain⟨o,g,d⟩:=i p.1 f;rw[e]at g;cases g;exact⟨e,k,l,m,d⟩
theorem Inv.unpinned(I:Inv X (a++d) b H s):Inv X a b H s:=I.pins_of λp c=>I.pin p (mem_append_right _ (mem_append_left _ c))
theorem zpR(E:PassesOwn (model X.prog X.w) X.A X.env X.xe)(hc:X.calm=Γ)(hi:PI X tg A wi)(hg:PG X tg g)(j:PSs X G tb)(hs:∀x,foldedSetIterable A X.env x=pure x:=by intro _;rfl):PS X (.For tg A G [] pos) (tFor wi g tb):=by
 intro a s σ H D I h;refine wpAny_For (thn (hi a s σ H _ I h) λv s1 h1=>thn h1 λitv s2 h2=>?_) hs;obtain⟨it,L,tn,J,H2,e,I2,T,st2,f2,W,⟨m0,w0⟩,M⟩:=h2;subst e
 have l:∀{y:Hp},(∀b∈L,y b=Ψ)->∀b∈L,FpOk X a y b:=λhn b j=>⟨hn b j,(f2 b j).2⟩;refine codeAny_forLoop_any (λn s'=>∃i p y,Inv X a p y s'/\tn i s'.heap/\(∀b∈L,y b=Ψ)/\W i n p y) ?_ m0 ⟨0,σ,H2,I2,st2,λb j=>(f2 b j).1,w0⟩;rintro n s3 ⟨i,q,Y,I3,O,Q,w3⟩;rcases M i n q Y w3 with⟨stop,qn⟩|⟨go,N,hN,step⟩;refine wpAny_passesOwn E (thn (T.done X rfl rfl rfl hc i a s3 q Y X.xe I3 (l Q) O stop) λr s4 k=>?_);obtain⟨hr,I4⟩:=k;subst hr;exact wpAny_execs_nil ⟨q,Y,I4,qn⟩;refine wpAny_passesOwn E (thn (T.item X rfl rfl rfl hc i a s3 q Y X.xe I3 (l Q) O go) λr s4 z=>?_);obtain⟨u,hr,h4⟩:=z;subst hr;refine wpAny_passesOwn E (thn h4 λ_ s5 z=>?_);obtain⟨x,H5,I5,r5,y5,C,fr5⟩:=z;have I5':=I5.pinned (l fr5) (T.obj _ _ C);refine wpAny_passesOwn E (thn (hg _ s5 q H5 x u _ I5' r5 (step x H5 y5)) λ_ s6 z=>?_);obtain⟨σ6,H6,I6,q6⟩:=z;refine wpAny_passesOwn E (thn (j _ s6 σ6 H6 _ I6 q6) λf s7 B=>?_);have again:∀{c:St}{t:Hp},Inv X (a++zft L s5.heap) c t s7->N c t->∃m,m<n/\∃i p y,Inv X a p y s7/\tn i s7.heap/\(∀b∈L,y b=Ψ)/\W i m p y:=λ{c t} w U=>by obtain⟨m',hm,w7⟩:=hN c t U;refine⟨m',hm,i+1,c,t,w.unpinned,T.keep _ _ _ C λb j o e=>(w.pin (b,o) (mem_append_right _ (mem_append_right _ (zbZ j e)))).1,λb j=>?_,w7⟩;obtain⟨o,e,d⟩:=T.obj _ _ C b j;exact(w.pin (b,o) (mem_append_right _ (mem_append_right _ (zbZ j e)))).2.1
 cases f with|next=>obtain⟨c,t,w,U⟩:=B;exact again w U|cont=>obtain⟨c,t,w,U⟩:=B;exact again w U|brk=>obtain⟨c,t,w,B⟩:=B;exact⟨c,t,w.unpinned,B⟩|ret v=>obtain⟨x7,c,t,w,r7,B⟩:=B;exact⟨x7,c,t,w.unpinned,r7,B⟩
end
abbrev R2:=V->V->Hp->VK->Prop
def OpR(X:Cx)(f:Λ->Λ->Sem Λ)(r:R2):Prop:=
 ∀(a:List (Addr×Obj))(s:Η)(b:St)(H:Hp)(x y:V)(v u:Λ)(Q:VK),Inv X a b H s->RelV x v->RelV y u->r x y H Q->
  wpAny (model X.prog X.w) X.A (f v u) (EP X a b Q) X.xe s
def UnR(X:Cx)(f:Λ->Sem Λ)(r:V->Hp->VK->Prop):Prop:=
 ∀(a:List (Addr×Obj))(s:Η)(b:St)(H:Hp)(x:V)(v:Λ)(Q:VK),Inv X a b H s->RelV x v->r x H Q->
  wpAny (model X.prog X.w) X.A (f v) (EP X a b Q) X.xe s
def za0(X:Cx)(f:Λ)(r:List V->Hp->VK->Prop):Prop:=
 ∀(a:List (Addr×Obj))(s:Η)(b:St)(H:Hp)(c:List V)(d:List Λ)(Q:VK),Inv X a b H s->Vals c d->r c H Q->
  wpAny (model X.prog X.w) X.A (call f d) (EP X a b Q) X.xe s
def TruR(X:Cx)(r:V->Hp->(Bool->Hp->Prop)->Prop):Prop:=
 ∀(a:List (Addr×Obj))(s:Η)(b:St)(H:Hp)(x:V)(v:Λ)(Q:Bool->Hp->Prop),Inv X a b H s->RelV x v->r x H Q->
  wpAny (model X.prog X.w) X.A (truthy v) (TP X a b Q) X.xe s
def tOp(r:R2)(b c:TE):TE:=λa H Q=>b a H λx d=>c a d λy e=>r x y e Q
def tUn(r:V->Hp->VK->Prop)(a:TE):TE:=λb H Q=>a b H λx c=>r x c Q
def rI(C:Int->Int->Prop)(g:Int->Int->V):R2:=λx y H Q=>∃i j,x=.int i/\y=.int j/\C i j/\Q (g i j) H
def rI0(g:Int->Int->V):R2:=λx y H Q=>∃i j,x=.int i/\y=.int j/\Q (g i j) H
def rU(g:Int->V):V->Hp->VK->Prop:=λx H Q=>∃i,x=.int i/\Q (g i) H
section
variable{X:Cx}{a b c:Expr}{ta tb tc:TE}{pos:Pos}
theorem binT(m:PE X a ta)(n:PE X b tb){R:V->V->Hp->Prop}(I:Inv X d g H s)(h:ta g H λx l=>tb g l λy e=>R x y e){f:Λ->Λ->Sem Λ}(o:∀v u k x y e,Inv X d g e k->RelV x v->RelV y u->R x y e->wpAny (model X.prog X.w) X.A (f v u) Q X.xe k):
  wpAny (model X.prog X.w) X.A (eval a X.env) (λv i=>wpAny (model X.prog X.w) X.A (eval b X.env) (λu j=>wpAny (model X.prog X.w) X.A (f v u) Q X.xe j) X.xe i) X.xe s:=by
 refine thn (m d s g H _ I h) λv p z=>?_;obtain⟨x,l,q,r,t⟩:=z;refine thn (n d p g l _ q t) λu k z=>?_;obtain⟨y,e,w,A,B⟩:=z;exact o v u k x y e w r A B
theorem zrK(e:OpR X (binaryOp op) r)(f:PE X a ta)(g:PE X b tb):PE X (.BinOp a op b pos) (tOp r ta tb):=by intro d s i H Q I h;exact wpAny_BinOp (binT f g I h λv u j x y k l m n q=>e d j i k x y v u Q l m n q)
theorem zrI(f:UnR X (unaryOp op) r)(g:PE X a ta):PE X (.UnaryOp op a pos) (tUn r ta):=by intro d s e H Q I h;exact UnaryOp_ (thn (g d s e H _ I h) λv i z=>(by obtain⟨x,j,k,l,m⟩:=z;exact f d i e j x v Q k l m))
theorem opI{g:Int->Int->Int}(rule:∀(i j:Int)(t u:Tok)(s:Η)(Q:Λ->Η->Prop)(E:Λ->Η->Prop),C i j->Q (.int (g i j) s.toks) {s with toks:=s.toks+1}->wpAny (model X.prog X.w) X.A (f (.int i t) (.int j u)) Q E s):
  OpR X f (rI C λi j=>.int (g i j)):=by
 intro d s n H x y v u Q I e k h;obtain⟨i,j,rfl,rfl,l,q⟩:=h;obtain⟨t,rfl⟩:=e;obtain⟨m,rfl⟩:=k;exact rule i j t m s _ _ l ⟨.int (g i j),H,I.tok _,⟨_,rfl⟩,q⟩
theorem opI0{g:Int->Int->Int}(rule:∀(i j:Int)(t u:Tok)(s:Η)(Q:Λ->Η->Prop)(E:Λ->Η->Prop),Q (.int (g i j) s.toks) {s with toks:=s.toks+1}->wpAny (model X.prog X.w) X.A (f (.int i t) (.int j u)) Q E s):
  OpR X f (rI0 λi j=>.int (g i j)):=by
 intro d s m H x y v u Q I e k h;obtain⟨i,j,rfl,rfl,q⟩:=h;obtain⟨t,rfl⟩:=e;obtain⟨l,rfl⟩:=k;exact rule i j t l s _ _ ⟨.int (g i j),H,I.tok _,⟨_,rfl⟩,q⟩
theorem opB0{g:Int->Int->Bool}(rule:∀(i j:Int)(t u:Tok)(s:Η)(Q:Λ->Η->Prop)(E:Λ->Η->Prop),Q (.bool (g i j)) s->wpAny (model X.prog X.w) X.A (f (.int i t) (.int j u)) Q E s):
  OpR X f (rI0 λi j=>.bl (g i j)):=by
 intro d s m H x y v u Q I e k h;obtain⟨i,j,rfl,rfl,q⟩:=h;obtain⟨t,rfl⟩:=e;obtain⟨l,rfl⟩:=k;exact rule i j t l s _ _ ⟨.bl (g i j),H,I,rfl,q⟩
def CDiv(i j:Int):Prop:=0<j/\j<1073741824
def CPow(i j:Int):Prop:=0<=j/\j<=1000000/\i.natAbs<2^64
def CMul(i j:Int):Prop:=(-(2^64)<i/\i<2^64)\/(-(2^64)<j/\j<2^64)
theorem CMul.ok(h:CMul i j):IntMulOk i j:=by rcases h with⟨d,e⟩|⟨d,e⟩;exact .of_left (intBits_le_64 d e);exact .of_right (intBits_le_64 d e)
theorem zqj:OpR X (binaryOp .Add) (rI0 λi j=>.int (i+j)):=opI0 λ_ _ _ _ _ _ _ q=>add_int q
theorem zqa:OpR X (binaryOp .Sub) (rI0 λi j=>.int (i-j)):=opI0 λ_ _ _ _ _ _ _ q=>sub_int q
theorem zqd:OpR X (binaryOp .Mult) (rI CMul λi j=>.int (i*j)):=opI λ_ _ _ _ _ _ _ d q=>mul_int q d.ok
theorem znS:OpR X (binaryOp .FloorDiv) (rI CDiv λi j=>.int (i/j)):=opI λi j _ _ _ _ _ d q=>by have e:=d.1;have f:=d.2;exact floordiv_int (by lia) (by rw[Int.fdiv_eq_ediv_of_nonneg i (by lia)];exact q) (.inl (PyProof.noPylong_small (by lia)))
theorem zqe:OpR X (binaryOp .Mod) (rI (λ_ j=>0<j) λi j=>.int (i%j)):=opI λi j _ _ _ _ _ d q=>by exact mod_int' (by lia) (by rw[Int.fmod_eq_emod_of_nonneg i (by lia)];exact q)
theorem zqb:OpR X (binaryOp .Pow) (rI CPow λi j=>.int (i^j.toNat)):=opI λ_ _ _ _ _ _ _ d q=>pow_int_small d.1 d.2.1 d.2.2 q
theorem unI{g:Int->Int}(rule:∀(i:Int)(t:Tok)(s:Η)(Q:Λ->Η->Prop)(E:Λ->Η->Prop),Q (.int (g i) s.toks) {s with toks:=s.toks+1}->wpAny (model X.prog X.w) X.A (f (.int i t)) Q E s):
  UnR X f (rU λi=>.int (g i)):=by
 intro d s j H x v Q I e h;obtain⟨i,rfl,q⟩:=h;obtain⟨t,rfl⟩:=e;exact rule i t s _ _ ⟨.int (g i),H,I.tok _,⟨_,rfl⟩,q⟩
theorem zoT:UnR X (unaryOp .USub) (rU λi=>.int (-i)):=unI λ_ _ _ _ _ q=>neg_int q
end
noncomputable def scal:V->V->Bool
 |.non,.non=>Γ|.non,.int _=>Γ|.int _,.non=>Γ|.non,.bl _=>Γ|.bl _,.non=>Γ|.non,.str _=>Γ|.str _,.non=>Γ
 |.int _,.int _=>Γ|.bl _,.bl _=>Γ|.str _,.str _=>Γ|.byt _,.byt _=>Γ
 |.int _,.str _=>Γ|.str _,.int _=>Γ|.bl _,.str _=>Γ|.str _,.bl _=>Γ
 |_,_=>Δ
def rEq:R2:=λx y H Q=>scal x y=Γ/\Q (.bl (decide (x=y))) H
def rNe:R2:=λx y H Q=>scal x y=Γ/\Q (.bl (!decide (x=y))) H
theorem zkp:decide (V.int i=V.int j)=(i==j):=by rw[Bool.eq_iff_iff];simp
theorem zmE:decide (V.bl i=V.bl j)=(i==j):=by rw[Bool.eq_iff_iff];simp
theorem zko:decide (V.str i=V.str j)=(i==j):=by rw[Bool.eq_iff_iff];simp
theorem zkq:decide (V.byt i=V.byt j)=(i.toList==j.toList):=by rw[Bool.eq_iff_iff];cases i;cases j;simp
section
variable{X:Cx}{a b c:Expr}{ta tb tc:TE}{pos:Pos}
theorem zan(I:Inv X d σ H s)(q:Q (.bl k) H)(e:k=f):EP X d σ Q (.bool f) s:=by subst e;exact⟨.bl k,H,I,rfl,q⟩
theorem zrT:OpR X (compareOp .Eq) rEq:=by
 intro k s l H x y v u Q I g d h;obtain⟨f,q⟩:=h;cases x with
 |non=>cases g;cases y with|non=>cases d;exact PySem.EqNone.eq_none_none (zan I q (by simp))|bl j=>cases d;exact PySem.EqNone.eq_none_bool (zan I q (by simp))|int j=>obtain⟨e,rfl⟩:=d;exact PySem.EqNone.eq_none_int (zan I q (by simp))|str j=>obtain⟨e,rfl⟩:=d;exact PySem.EqNone.eq_none_str (zan I q (by simp))|_=>exact absurd (show Δ=Γ from f) Ζ
 |bl i=>cases g;cases y with|non=>cases d;exact PySem.EqNone.eq_bool_none (zan I q (by simp))|bl j=>cases d;exact eq_bool (zan I q zmE)|str j=>obtain⟨e,rfl⟩:=d;exact PySem.EqMixed.eq_bool_str (zan I q (by simp))|_=>exact absurd (show Δ=Γ from f) Ζ
 |int i=>obtain⟨t,rfl⟩:=g;cases y with|non=>cases d;exact PySem.EqNone.eq_int_none (zan I q (by simp))|int j=>obtain⟨e,rfl⟩:=d;exact eq_int (zan I q zkp)|str j=>obtain⟨e,rfl⟩:=d;exact PySem.EqMixed.eq_int_str (zan I q (by simp))|_=>exact absurd (show Δ=Γ from f) Ζ
 |str i=>obtain⟨t,rfl⟩:=g;cases y with|non=>cases d;exact PySem.EqNone.eq_str_none (zan I q (by simp))|bl j=>cases d;exact PySem.EqMixed.eq_str_bool (zan I q (by simp))|int j=>obtain⟨e,rfl⟩:=d;exact PySem.EqMixed.eq_str_int (zan I q (by simp))|str j=>obtain⟨e,rfl⟩:=d;exact eq_str (zan I q zko)|_=>exact absurd (show Δ=Γ from f) Ζ
 |byt i=>obtain⟨t,rfl⟩:=g;cases y with|byt j=>obtain⟨e,rfl⟩:=d;exact PySem.W.eq_bytes (zan I q zkq)|_=>exact absurd (show Δ=Γ from f) Ζ
 |_=>cases y<;>exact absurd (show Δ=Γ from f) Ζ
theorem zrO:OpR X (compareOp .NotEq) rNe:=by
 intro pins s σ H x y v u Q I rx ry h;obtain⟨hs,q⟩:=h;cases x with
 |non=>cases rx;cases y with|non=>cases ry;exact PySem.EqNone.ne_none_none (zan I q (by simp))|bl j=>cases ry;exact PySem.EqNone.ne_none_bool (zan I q (by simp))|int j=>obtain⟨t',rfl⟩:=ry;exact PySem.EqNone.ne_none_int (zan I q (by simp))|str j=>obtain⟨t',rfl⟩:=ry;exact PySem.EqNone.ne_none_str (zan I q (by simp))|_=>exact absurd (show Δ=Γ from hs) Ζ
 |bl i=>cases rx;cases y with|non=>cases ry;exact PySem.EqNone.ne_bool_none (zan I q (by simp))|bl j=>cases ry;exact ne_bool (zan I q (congrArg not zmE))|str j=>obtain⟨t',rfl⟩:=ry;exact PySem.EqMixed.ne_bool_str (zan I q (by simp))|_=>exact absurd (show Δ=Γ from hs) Ζ
 |int i=>obtain⟨t,rfl⟩:=rx;cases y with|non=>cases ry;exact PySem.EqNone.ne_int_none (zan I q (by simp))|int j=>obtain⟨t',rfl⟩:=ry;exact ne_int (zan I q (congrArg not zkp))|str j=>obtain⟨t',rfl⟩:=ry;exact PySem.EqMixed.ne_int_str (zan I q (by simp))|_=>exact absurd (show Δ=Γ from hs) Ζ
 |str i=>obtain⟨t,rfl⟩:=rx;cases y with|non=>cases ry;exact PySem.EqNone.ne_str_none (zan I q (by simp))|bl j=>cases ry;exact PySem.EqMixed.ne_str_bool (zan I q (by simp))|int j=>obtain⟨t',rfl⟩:=ry;exact PySem.EqMixed.ne_str_int (zan I q (by simp))|str j=>obtain⟨t',rfl⟩:=ry;exact ne_str (zan I q (congrArg not zko))|_=>exact absurd (show Δ=Γ from hs) Ζ
 |byt i=>obtain⟨t,rfl⟩:=rx;cases y with|byt j=>obtain⟨t',rfl⟩:=ry;exact PySem.W.ne_bytes (zan I q (congrArg not zkq))|_=>exact absurd (show Δ=Γ from hs) Ζ
 |_=>cases y<;>exact absurd (show Δ=Γ from hs) Ζ
theorem zrP:OpR X (compareOp .Lt) (rI0 λi j=>.bl (decide (i<j))):=opB0 λ_ _ _ _ _ _ _ q=>lt_int q
theorem zrQ:OpR X (compareOp .LtE) (rI0 λi j=>.bl (decide (i<=j))):=opB0 λ_ _ _ _ _ _ _ q=>le_int q
theorem zrR:OpR X (compareOp .Gt) (rI0 λi j=>.bl (decide (j<i))):=opB0 λ_ _ _ _ _ _ _ q=>gt_int q
theorem zrS:OpR X (compareOp .GtE) (rI0 λi j=>.bl (decide (j<=i))):=opB0 λ_ _ _ _ _ _ _ q=>ge_int q
theorem znO(e:OpR X (compareOp op) r)(f:PE X a ta)(g:PE X b tb)(i:behindInMarks op b=Δ):PE X (.Compare a [op] [b] pos) (tOp r ta tb):=by intro d s j H Q I h;exact wpAny_Compare1 (binT f g I h λv u k x y l m n o q=>e d k j l x y v u Q m n o q) i
def zo4(t:TE):TT:=λd H Q=>t d H λx e=>∃k,x=.bl k/\Q k e
theorem znF(g:OpR X (compareOp op) r)(i:PE X a ta)(l:PE X b tb)(m:behindInMarks op b=Δ):PT X (.Compare a [op] [b] pos) (zo4 (tOp r ta tb)):=by intro d s f H Q I h;refine wpAny_isTrue_Compare1 (thn (i d s f H _ I h) λv n z=>eY z λx o p q t=>thn (l d n f o _ p t) λu w z=>eY z λy A B C E=>thn (g d w f A x y v u _ B q C E) λc N j=>?_) m;obtain⟨z,G,J,L,k,e,M⟩:=j;subst e;cases L;exact Ϟ ⟨G,J,M⟩
def zma(r f:R2)(ta tb tc:TE):TE:=λd H Q=>ta d H λx g=>tb d g λy h=>r x y h λz e=>∃k,z=.bl k/\
 (if k=Γ then tc d e λi j=>f y i j Q else Q (.bl Δ) e)
theorem zlv(t:OpR X (compareOp op) r)(l:OpR X (compareOp g) w)(A:PE X a ta)(B:PE X b tb)(C:PE X c tc)(E:lastMarks [op,g] [b,c]=Δ:=by with_unfolding_all rfl):PE X (.Compare a [op,g] [b,c] pos) (zma r w ta tb tc):=by
 intro f s i H Q I h;refine Compare_chain (thn (A f s i H _ I h) λv G z=>eY z λx J L M N=>chain_link (thn (B f G i J _ L N) λu O z=>eY z λy T U m Y=>thn (t f O i T x y v u _ U M m Y) λd s3 j=>?_)) E;obtain⟨z,n,o,r3,k,e,q⟩:=j;subst e;cases r3;refine Ϟ ?_;cases k with|false=>exact ite_ff ⟨.bl Δ,n,o,rfl,q⟩|true=>exact ite_tt (chain_last (thn (C f s3 i n _ o q) λw' s4 p=>(by obtain⟨z',H4,I4,r4,q4⟩:=p;exact l f s4 i H4 y z' u w' Q I4 m r4 q4)))
theorem zlf(q:OpR X (compareOp op) r)(l:OpR X (compareOp g) t)(w:PE X a ta)(A:PE X b tb)(B:PE X c tc)(C:lastMarks [op,g] [b,c]=Δ:=by with_unfolding_all rfl):PT X (.Compare a [op,g] [b,c] pos) (zo4 (zma r t ta tb tc)):=by
 intro f s i H Q I h;refine isTrue_chain (thn (w f s i H _ I h) λv E z=>eY z λx G J L M=>test_link (thn (A f E i G _ J M) λu N z=>eY z λy O T m U=>thn (q f N i O x y v u _ T L m U) λd Y j=>?_)) C;obtain⟨z,n,o,r3,k,e,p⟩:=j;subst e;cases r3;refine Ϟ ?_;cases k with| false=>obtain⟨k',e',q'⟩:=p;cases e';exact ite_ff ⟨n,o,q'⟩| true=>refine ite_tt (test_last (thn (B f Y i n _ o p) λw' s4 z=>eY z λz' H4 I4 r4 q4=>thn (l f s4 i H4 y z' u w' _ I4 m r4 q4) λd' s5 j=>?_));obtain⟨z2,H5,I5,r5,k2,e2,q5⟩:=j;subst e2;cases r5;exact Ϟ ⟨H5,I5,q5⟩
def TruV(K:Frag)(x:V)(H:Hp)(k:Bool):Prop:=match x with|.non=>k=Δ|.bl b=>k=b|.int i=>k=(i != 0)|.str y=>y.length<=sizeLine/\k=((y.length:Int) != 0)|.byt y=>y.size<=sizeLine/\k=((y.size:Int) != 0)|.ref p=>(∃d,SqL K H p d/\k = !d.isEmpty)\/(∃d,SqT K H p d/\k = !d.isEmpty)\/∃e,H p=Φ (.dK e)/\k = !e.isEmpty|_=>False
theorem zih(r:KV d vs):(!vs.isEmpty) = !d.isEmpty:=by cases r<;>rfl
theorem zei(r:Vals xs its):(!its.toArray.isEmpty) = !xs.isEmpty:=by cases r<;>simp
theorem zee:(sizeLine:Nat)<2^63:=by decide
theorem zoW:TruR X (λx H Q=>∃k,TruV X.K x H k/\Q k H):=by
 intro w s E H x v Q I g h;obtain⟨k,e,q⟩:=h;have G:=ϔ;cases x with
 |non=>cases g;have d:=e;subst d;exact truthy_none ⟨H,I,q⟩| bl b=>cases g;have d:=e;subst d;exact Ϟ ⟨H,I,q⟩| int i=>obtain⟨t,rfl⟩:=g;have d:=e;subst d;exact PySem.P.truthy_int ⟨H,I,q⟩| str y=>obtain⟨t,rfl⟩:=g;obtain⟨A,d⟩:y.length<=sizeLine/\k=((y.length:Int) != 0):=e;subst d;exact PySem.P.truthy_str (by cutsat) ⟨H,I.tok _,q⟩| byt y=>obtain⟨t,rfl⟩:=g;obtain⟨A,d⟩:y.size<=sizeLine/\k=((y.size:Int) != 0):=e;subst d;exact PySem.W.truthy_bytes (by cutsat) ⟨H,I.tok _,q⟩| ref p=>cases g;have d:=e;rcases d with⟨B,j,d⟩|⟨B,j,d⟩|⟨l,j,d⟩;subst d;obtain⟨n,r,o,z⟩:=I.list j;have f:=r.length;exact wpAny_truthy_list o.isList (by simp only[size_toArray];cutsat) ⟨H,I.tok _,by rw[zei r];exact q⟩;subst d;obtain⟨n,r,o,z⟩:=I.tuple j;have f:=r.length;exact truthy_tuple o (by simp only[size_toArray];cutsat) ⟨H,I.tok _,by rw[zei r];exact q⟩;subst d;obtain⟨z,C,u,r,m⟩:l.length<=sizeLine/\(p==sysModules)=Δ/\∃u,KV l u/\s.heap.DictOf (zaf X.prog X.w) p u:=I.hok p _ j;have f:=Paired.length r;exact wpAny_truthy_dict C m (by cutsat) ⟨H,I.tok _,by rw[zih r];exact q⟩
 |_=>exact(show False from e).elim
theorem zle(f:PE X a ta)(g:∀d,isTrue a X.env d=(do let v <-d;standAt a.pos;holding [v] (truthy v))) :
  PT X a (λσ H Q=>ta σ H λx H'=>∃k,TruV X.K x H' k/\Q k H'):=by
 intro e s σ H Q I h;exact isTrue_plain (thn (f e s σ H _ I h) λv i z=>(by obtain⟨x,j,l,m,n⟩:=z;exact zoW e i σ j x v Q l m n)) (g _)
theorem zkN(r:Vals [x] us):∃u,us=[u]/\RelV x u:=by cases r with|cons d e=>cases e;exact⟨_,rfl,d⟩
theorem zmU(r:Vals [x,y] us):∃u d,us=[u,d]/\RelV x u/\RelV y d:=by cases r with| cons e f=>cases f with|cons g h=>cases h;exact⟨_,_,rfl,e,g⟩
theorem zlY:za0 X (.builtin "abs") (λxs H Q=>∃i,xs=[.int i]/\Q (.int (if i<0 then -i else i)) H):=by intro d s e H xs f Q I r h;obtain⟨i,rfl,q⟩:=h;obtain⟨u,rfl,t,rfl⟩:=zkN r;exact call_abs_int λu g=>⟨.int (if i<0 then -i else i),H,I.tok _,⟨_,rfl⟩,q⟩
theorem zkx(f:X.calm=Γ):za0 X (.builtin "max") (λxs H Q=>∃i j,xs=[.int i,.int j]/\Q (.int (if j>i then j else i)) H):=by intro e s g H xs l Q I r h;obtain⟨i,j,rfl,q⟩:=h;obtain⟨u,m,rfl,⟨t,rfl⟩,⟨n,rfl⟩⟩:=zmU r;refine max_two_ints (I.ok.hd f) λo p k=>⟨_,H,I.kept k,?_,q⟩;by_cases d:j>i;rw[if_pos d,if_pos d];exact⟨_,rfl⟩;rw[if_neg d,if_neg d];exact⟨_,rfl⟩
theorem zkw(f:X.calm=Γ):za0 X (.builtin "min") (λxs H Q=>∃i j,xs=[.int i,.int j]/\Q (.int (if j<i then j else i)) H):=by intro e s g H xs l Q I r h;obtain⟨i,j,rfl,q⟩:=h;obtain⟨u,m,rfl,⟨t,rfl⟩,⟨n,rfl⟩⟩:=zmU r;refine min_two_ints (I.ok.hd f) λo p k=>⟨_,H,I.kept k,?_,q⟩;by_cases d:j<i;rw[if_pos d,if_pos d];exact⟨_,rfl⟩;rw[if_neg d,if_neg d];exact⟨_,rfl⟩
end
structure ObjM(h:Heap)(x dx C:Addr)(mA:Str->Option Λ):Prop where
 obj:h.get? x=Φ (instObj C dx)
 ns:h.Ns1 dx mA
 ne:dx≠x
theorem zjK{h:Heap}(n:h.Ns1 f g):∃c,h.get? f=Φ c/\∀name,lookIn name c=Φ (g name):=by
 obtain⟨o,d,r,i,j,k,_,l⟩:=n;refine⟨o,i,λname=>?_⟩;have e:=l name;unfold nsFind findBy at e;rw[<-Array.find?_toList]at e;unfold lookIn;rw[j];dsimp only;split;rename_i y q;rw[q]at e;exact congrArg Φ e;rename_i q;rw[q]at e;have a:d.toList.any (·.refKey)=Δ:=by rw[List.any_eq_false];intro y m;obtain⟨z,t,b⟩:=k y (Array.mem_toList_iff.mp m);simp[DictEntry.refKey,b]
 have p:¬d.toList.any (·.refKey)=Γ:=by rw[a];exact Ζ
 rw[if_neg p];exact congrArg Φ e
theorem ObjM.look(I:ObjM h x b C c):∃a,PySem.W.InstAt h x (instObj C b) C (Φ a)/\∀name,lookIn name a=Φ (c name):=
 let ⟨a,d,e⟩:=zjK I.ns
 ⟨a,⟨I.obj,rfl,rfl,d⟩,e⟩
section
variable{prog:Τ}{w:ϐ}{A:ϑ}{E:Λ->Η->Prop}{s:Η}{K:Frag}{x dx C f:Addr}{mA:Str->Option Λ}{name:Str}{v:Λ}
theorem zol(X:K.In s.heap)(I:ObjM s.heap x dx C mA)(c:plainGet K C name=Γ)(d:hasDictIn K C=Γ)(e:findIn K (.ref C) name=Φ Ψ)(g:mA name=Φ v)(a:handedIn v=Γ)(h:Q v {s with toks:=s.toks+1}):
  wpAny (model prog w) A (getAttr (.ref x) name b) Q E s:=by
 obtain⟨j,J,i⟩:=I.look;exact PySem.W.get_value X J (plainGet_of c).1 (PySem.W.findObj_own d e rfl (by rw[i,g])) a h
theorem zlQ(X:K.In s.heap)(I:ObjM s.heap x dx C mA)(a:plainGet K C name=Γ)(b:findIn K (.ref C) name=Φ (Φ (.ref f)))(c:isFn K (.ref f)=Γ)(d:mA name=Ψ)(h:Q (.ref f,[.ref x]) s):
  wpAny (model prog w) A (getMethod (.ref x) name pl) Q E s:=by
 obtain⟨e,J,g⟩:=I.look;exact PySem.W.method_fn X J (plainGet_of a).1 (plainGet_of a).2 b (beq_iff_eq.mp c) (by show(lookIn name e).map (·.isSome)=Φ Δ;rw[g,d];rfl) h
theorem znc(X:K.In s.heap)(I:ObjM s.heap x dx C mA)(k:findIn K (.ref C) "__setattr__"=Φ (Φ (.builtin "object.__setattr__")))(l:plainOver K C=Γ)(m:takerIn K C name=Φ Ψ)(n:hasDictIn K C=Γ)(o:PySem.Within mA ns)(p:ns.length<=sizeLine)(h:∀h',ObjM h' x dx C (λy=>if y=name then Φ v else mA y)->Heap.SameBut dx s.heap h'->Q () {s with heap:=h',toks:=s.toks+2}):
  wpAny (model prog w) A (setAttr (.ref x) name v) Q E s:=by
 obtain⟨B,J,G⟩:=I.look;refine PySem.W.set_plain X J k (PySem.W.osa_open (s:={s with toks:=s.toks+1}) (r:=Ψ) X J l m λb=>?_);obtain⟨H,q,e⟩:=PySem.W.any_some n;have t:s.heap.get? x=Φ ⟨.ref C,Φ dx,.plain,#[]⟩:=I.obj;refine Θ (Ξ (Θ (Θ (wpAny_loadPart t (Θ (PySem.W.Looks.here (s:={s with toks:=s.toks+1}) (PySem.W.looks_clsIn X q) ?_))))));rw[e];refine Ξ (a:=Φ dx) (Θ (Ξ (Θ ?_)));refine wpAny_nsSet1 (s:={s with toks:=s.toks+1}) I.ns λh' c d=>?_;obtain⟨oD,u,z,g,i,j⟩:=c.count (PySem.Within.cons name v o);refine Θ (wpAny_lookBehind g (by rw[i];exact pastItsLine_dict (le_trans j (by rw[length_cons];lia))) ?_);exact Ξ (h _ ⟨(d.2 _ (Ne.symm I.ne)).trans I.obj,c,I.ne⟩ d)
theorem zlB(X:K.In s.heap)(b:makesIn K C=Γ)(c:findIn K (.ref C) "__init__"=Φ (Φ (.ref f)))(e:PySem.W.typeIn K (.ref f)=Φ (.type "function"))(h:codeAny (model prog w) (A.under (.builtin "type.__call__" ⟨.ref C::vs,a⟩)) (.call (.ref f) ⟨.ref (s.heap.objs.size+1)::vs,a⟩) (PySem.W.InitBack (s.heap.objs.size+1) R)
   {s with heap:=(s.heap.push emptyDict).push (instObj C s.heap.objs.size)}):
  codeAny (model prog w) A (.call (.ref C) ⟨vs,a⟩) R s:=by
 obtain⟨i,g,d,t,os⟩:=s;exact PySem.W.make_core (PySem.W.makes_of X b) (PySem.W.looks_findIn X c) (λself=>PySem.W.bind_fn X self e) (.inl rfl) h
end
noncomputable def putF(f:Str)(v:V):List (Str×V)->List (Str×V)
 | []=>[(f,v)]|(g,x)::r=>if g=f then(g,v)::r else(g,x)::putF f v r
theorem zdz(f g)(v):∀c:List (Str×V),(putF f v c).lookup g=if g=f then Φ v else c.lookup g
 | []=>by show List.lookup g [(f,v)]=_;by_cases h:g=f;have a:(g==f)=Γ:=beq_iff_eq.mpr h;simp only[List.lookup,a,if_pos h];have a:(g==f)=Δ:=beq_eq_false_iff_ne.mpr h;simp only[List.lookup,a,if_neg h]| (k,x)::r=>by have d:=zdz f g v r;rw[show putF f v ((k,x)::r)=(if k=f then(k,v)::r else(k,x)::putF f v r) from rfl];by_cases b:k=f;rw[if_pos b];by_cases h:g=k;have a:(g==k)=Γ:=beq_iff_eq.mpr h;simp only[List.lookup,a,if_pos (h.trans b)];have a:(g==k)=Δ:=beq_eq_false_iff_ne.mpr h;simp only[List.lookup,a,if_neg (λe:g=f=>h (e.trans b.symm))];rw[if_neg b];by_cases h:g=k;have a:(g==k)=Γ:=beq_iff_eq.mpr h;simp only[List.lookup,a,if_neg (λe:g=f=>b (h.symm.trans e))];have a:(g==k)=Δ:=beq_eq_false_iff_ne.mpr h;simp only[List.lookup,a];exact d
theorem zdD(f)(v):∀a:List (Str×V),f∈(putF f v a).map (·.1)/\∀g,g∈a.map (·.1)->g∈(putF f v a).map (·.1)
 | []=>⟨by simp[putF],λg h=>by simp at h⟩| (k,x)::r=>by obtain⟨c,d⟩:=zdD f v r;rw[show putF f v ((k,x)::r)=(if k=f then(k,v)::r else(k,x)::putF f v r) from rfl];by_cases b:k=f;rw[if_pos b];subst b;exact⟨by simp,λg h=>by simpa using h⟩;rw[if_neg b];refine⟨?_,λg h=>?_⟩;rw[ϋ];exact Ν _ c;rw[ϋ]at h⊢;rcases mem_cons.mp h with e|e;exact mem_cons.mpr (.inl e);exact Ν _ (d g e)
theorem zdB(f)(v):∀a:List (Str×V),(putF f v a).length<=a.length+1
 | []=>by simp[putF]| (k,x)::r=>by have c:=zdB f v r;rw[show putF f v ((k,x)::r)=(if k=f then(k,v)::r else(k,x)::putF f v r) from rfl];by_cases b:k=f;rw[if_pos b,length_cons,length_cons];lia;rw[if_neg b,length_cons,length_cons];lia
theorem RelO.some_of(r:RelO (Φ v) o):∃u,o=Φ u/\RelV v u:=by cases o with|none=>exact(show False from r).elim|some u=>exact⟨u,rfl,r⟩
theorem RelO.none_of(r:RelO Ψ o):o=Ψ:=by cases o with|none=>rfl|some u=>exact(show False from r).elim
theorem zkc(r:RelV v u):handedIn u=Γ:=by cases v with|non=>cases(show u=Λ.none from r);rfl|bl b=>cases(show u=Λ.bool b from r);rfl|int i=>obtain⟨t,e⟩:=(show ∃t,u=Λ.int i t from r);cases e;rfl|str x=>obtain⟨t,e⟩:=(show ∃t,u=Λ.str x t from r);cases e;rfl|byt b=>obtain⟨t,e⟩:=(show ∃t,u=Λ.bytes b t from r);cases e;rfl|flt b=>obtain⟨t,e⟩:=(show ∃t,u=Λ.float b t from r);cases e;rfl|ref a=>cases(show u=Λ.ref a from r);rfl|ty n=>cases(show u=Λ.type n from r);rfl
section
variable{P:Τ}{w:ϐ}{H H':Hp}{h h':Heap}{a C dx:Addr}{fs fs':List (Str×V)}
theorem ins_get(hok:HOk P w H h)(e:H a=Φ (.ins C dx fs)):∃b,ObjM h a dx C b/\(∀f,RelO (fs.lookup f) (b f))/\PySem.Within b (fs.map (·.1))/\fs.length<=1000/\H dx=Φ (.own a):=by obtain⟨d,z,c,g,b,n,r,q⟩:=(show ObjOk P w H h a (.ins C dx fs) from hok a _ e);exact⟨b,⟨g,n,c⟩,r,q,z,d⟩
end
structure Cls(K:Frag)(C:Addr):Prop where
 pg:plainGet K C Str.empty=Γ
 hd:hasDictIn K C=Γ
 po:plainOver K C=Γ
 sa:findIn K (.ref C) "__setattr__"=Φ (Φ (.builtin "object.__setattr__"))
theorem Cls.get{K}(c:Cls K C)(f):plainGet K C f=Γ:=c.pg
def NoAttr(K:Frag)(C:Addr)(f:Str):Prop:=findIn K (.ref C) f=Φ Ψ
theorem NoAttr.taker{K}(n:NoAttr K C f):takerIn K C f=Φ Ψ:=by unfold takerIn;rw[show findIn K (.ref C) f=Φ Ψ from n];rfl
structure Con(K:Frag)(C:Addr)(f:Str)(v:V)(u:Λ):Prop where
 at_:findIn K (.ref C) f=Φ (Φ u)
 rel:RelV v u
 get:specialIn K u "__get__"=Φ Ψ
 cp:PySem.W.copiedNames.contains f=Δ
structure Meth(K:Frag)(C:Addr)(m:Str)(f:Addr):Prop where
 at_:findIn K (.ref C) m=Φ (Φ (.ref f))
 fn:isFn K (.ref f)=Γ
 kp:keepIn K (.ref f)=Γ
section
variable{X:Cx}{pins:List (Addr×Obj)}{σ:St}{H:Hp}{s:Η}{a C dx:Addr}{fs:List (Str×V)}{f:Str}{v:V}{A:ϑ}{E:Λ->Η->Prop}
theorem zij(I:Inv X pins σ H s)(e:H a=Φ (.ins C dx fs))(c:Cls X.K C)(n:NoAttr X.K C f)(l:fs.lookup f=Φ v)(h:∀u s',Inv X pins σ H s'->RelV v u->Q u s'):wpAny (model X.prog X.w) A (getAttr (.ref a) f b) Q E s:=by
 obtain⟨i,O,r,_,_,_⟩:=ins_get I.hok e;obtain⟨u,g,d⟩:=RelO.some_of (by rw[<-l];exact r f);exact zol I.kIn O (c.get f) c.hd n g (zkc d) (h u _ (I.tok _) d)
theorem zek(I:Inv X pins σ H s)(e:H a=Φ (.ins C dx fs))(c:Cls X.K C)(k:Meth X.K C m g)(l:fs.lookup m=Ψ)(h:Q (.ref g,[.ref a]) s):wpAny (model X.prog X.w) A (getMethod (.ref a) m pl) Q E s:=by
 obtain⟨d,O,r,_,_,_⟩:=ins_get I.hok e;have b:=RelO.none_of (by rw[<-l];exact r m);exact zlQ I.kIn O (c.get m) k.at_ k.fn b h
theorem zhM(I:Inv X pins σ H s)(e:H a=Φ (.ins C dx fs))(c:Cls X.K C)(n:NoAttr X.K C f)(J:fs.length<1000)(k:RelV y u)(h:∀s',Inv X pins σ (upd H a (.ins C dx (putF f y fs))) s'->Q () s'):wpAny (model X.prog X.w) A (setAttr (.ref a) f u) Q E s:=by
 obtain⟨l,O,r,i,_,j⟩:=ins_get I.hok e;have m:(fs.map (·.1)).length<=sizeLine:=by rw[length_map,ϔ];lia
 refine znc I.kIn O c.sa c.po n.taker c.hd i m λp d t=>h _ ?_;have w:∃o,p.get? dx=Φ o:=let ⟨o,_,_,x,_⟩:=d.ns;⟨o,x⟩;refine I.write (by rw[e];exact True.intro) (.inr j) (λb q B z=>(t.2 b B).trans z) w ?_;refine⟨by rw[zak O.ne];exact j,?_,O.ne,d.obj,_,d.ns,λg=>?_,λg G=>?_⟩
 have:=zdB f y fs;lia;rw[zdz];by_cases q:g=f;rw[if_pos q,if_pos q];exact k;rw[if_neg q,if_neg q];exact r g;by_cases q:g=f;rw[q];exact(zdD f y fs).1;refine(zdD f y fs).2 g (i g λz=>G ?_);show(if g=f then Φ u else l g)=Ψ;rw[if_neg q];exact z
theorem Inv.made(I:Inv X pins σ H s):Inv X pins σ (upd (upd H s.heap.objs.size (.own (s.heap.objs.size+1))) (s.heap.objs.size+1) (.ins C s.heap.objs.size []))
  {s with heap:=(s.heap.push emptyDict).push (instObj C s.heap.objs.size)}:=by
 have c:(s.heap.push emptyDict).get? s.heap.objs.size=Φ emptyDict:=Ι s.heap rfl;have g:((s.heap.push emptyDict).push (instObj C s.heap.objs.size)).get? (s.heap.objs.size+1)=Φ (instObj C s.heap.objs.size):=by
  have:=Ι (s.heap.push emptyDict) (o:=instObj C s.heap.objs.size) rfl
  rwa [ϒ]at this
 have h:(s.heap.push emptyDict).Ns s.heap.objs.size (λ_=>Ψ):=⟨emptyDict,#[],_,c,rfl,(λe i=>absurd i (by simp)),λ_=>rfl⟩;have j:=I.laid (o:=.own (s.heap.objs.size+1)) (t':=s.toks) (λb u q=>Ω _ q) (le_refl _) ⟨_,c⟩;refine j.laid (λb u q=>Ω _ q) (Nat.le_of_eq (ϒ _ _)) ?_;have d:s.heap.objs.size≠s.heap.objs.size+1:=ne_of_lt (Nat.lt_succ_self _);refine⟨by rw[zak d,zao],zero_le _,d,g,λ_=>Ψ,(Heap.Ns1.of_empty h).at λo q=>Ω _ q,λ_=>True.intro,λy k=>absurd rfl k⟩
theorem zoG(c:attributeBase e f env (eval e env)=eval e env)(h:wpAny (model prog w) A (eval e env) (λo b=>wpAny (model prog w) A (getAttr o f Γ) Q E b) E s):wpAny (model prog w) A (eval (.Attribute e f pos) env) Q E s:=
 Attribute_any_ h (by rw[arm_eval_Attribute,c])
end
def tFld(K:Frag)(d:TE)(f:Str):TE:=λe H Q=>d e H λx b=>∃a C g c v,x=.ref a/\b a=Φ (.ins C g c)/\Cls K C/\NoAttr K C f/\c.lookup f=Φ v/\Q v b
def sFld(K:Frag)(g h:TE)(f:Str):TS:=λD b H=>h b H λy i=>g b i λx d=>∃a C e c,x=.ref a/\d a=Φ (.ins C e c)/\Cls K C/\NoAttr K C f/\c.length<1000/\
 D.nx b (upd d a (.ins C e (putF f y c)))
section
variable{X:Cx}{o e value:Expr}{f:Str}{pos pos' tpos:Pos}{ta tv:TE}
theorem zp5(d:PE X e ta)(g:attributeBase e f X.env (eval e X.env)=eval e X.env):PE X (.Attribute e f pos) (tFld X.K ta f):=by intro b s i H Q I h;refine zoG g (thn (d b s i H _ I h) λu y z=>?_);obtain⟨x,j,k,m,a,C,A,B,v,p,r,c,n,l,q⟩:=z;subst p;obtain rfl:u=Λ.ref a:=m;exact zij k r c n l λE G t w=>⟨v,j,t,w,q⟩
theorem zpS(ha:PE X o ta)(hv:PE X value tv)(hs:swapsWith value (Φ (.Attribute o f pos')) pos.line X.env=pure Δ):PS X (.Assign [.Attribute o f pos'] value pos) (sFld X.K ta tv f):=by intro pins s σ H D I h;refine plainObj_wpAny_Assign_Attribute (thn (hv pins s σ H _ I h) λu s1 z=>eY z λy H1 I1 ry q=>thn (ha pins s1 σ H1 _ I1 q) λov s2 z=>?_) hs;obtain⟨x,H2,I2,rx,a,C,dx,fs,ex,ea,c,n,l,q2⟩:=z;subst ex;obtain rfl:ov=Λ.ref a:=rx;exact zhM I2 ea c n l ry λs3 I3=>⟨σ,_,I3,q2⟩
end
section
variable{X:Cx}{pins:List (Addr×Obj)}{σ:St}{H:Hp}{s:Η}{A:ϑ}{E:Λ->Η->Prop}{Q:Λ->Η->Prop}{c:Λ}{b:Bool}
inductive TyOf(K:Frag)(H:Hp):V->Λ->Prop where
 |non:TyOf K H .non (.type "NoneType")
 |bl (x:Bool):TyOf K H (.bl x) (.type "bool")
 |int (i:Int):TyOf K H (.int i) (.type "int")
 |str (x:Str):TyOf K H (.str x) (.type "str")
 |flt (x:UInt64):TyOf K H (.flt x) (.type "float")
 |lst {a:Addr} {xs:List V} (e:H a=Φ (.lst xs)):TyOf K H (.ref a) (.type "list")
 |frz {a:Addr} {o:Obj} {xs:List V} (e:H a=Φ (.frz o (.lst xs))):TyOf K H (.ref a) (.type "list")
 |tup {a:Addr} {xs:List V} (e:H a=Φ (.tup xs)):TyOf K H (.ref a) (.type "tuple")
 |dK {a:Addr} {kvs:List (Key×V)} (e:H a=Φ (.dK kvs)):TyOf K H (.ref a) (.type "dict")
 |dT {a:Addr} {kvs:List (List Key×V)} (e:H a=Φ (.dT kvs)):TyOf K H (.ref a) (.type "dict")
 |ins {a C dx:Addr} {fs:List (Str×V)} (e:H a=Φ (.ins C dx fs)) (cl:Cls K C) (ha:findIn K (.ref C) "__class__"=Φ (Φ (.builtin "object.__class__")))
  (hn:specialIn K (.builtin "object.__class__") "__get__"=Φ (Φ (.builtin "getset_descriptor.__get__"))) (htk:takesIn K (.builtin "object.__class__")=Φ Γ)
  (hm:mroIn K C (.type "object")=Φ Γ):TyOf K H (.ref a) (.ref C)
theorem zjW(I:Inv X pins σ H s)(rx:RelV x u)(ty:TyOf X.K H x t)(e:kitOne X.K t c=Φ b)(h:∀tk,Q (.bool b) {s with toks:=tk}):
  wpAny (model X.prog X.w) A (call (.builtin "isinstance") [u,c]) Q E s:=by
 cases ty with|non=>cases(show u=Λ.none from rx);exact kia_one PySem.W.kitx_none I.kIn True.intro e (λz=>by cases z) h|bl y=>cases(show u=Λ.bool y from rx);exact kia_one PySem.W.kitx_bool I.kIn True.intro e (λz=>by cases z) h|int i=>obtain⟨t,q⟩:=(show ∃t,u=Λ.int i t from rx);cases q;exact kia_one PySem.W.kitx_int I.kIn True.intro e (λz=>by cases z) h|str y=>obtain⟨t,q⟩:=(show ∃t,u=Λ.str y t from rx);cases q;exact kia_one PySem.W.kitx_str I.kIn True.intro e (λz=>by cases z) h|flt y=>obtain⟨t,q⟩:=(show ∃t,u=Λ.float y t from rx);cases q;exact kia_one PySem.W.kitx_float I.kIn True.intro e (λz=>by cases z) h| @lst a xs ea=>cases(show u=Λ.ref a from rx);obtain⟨_,_,n,_,h1⟩:=(show ObjOk X.prog X.w H s.heap a (.lst xs) from I.hok a _ ea);exact kia_one kitx_list I.kIn ⟨_,h1,rfl⟩ e (λz=>by cases z) h| @frz a ob xs ea=>cases(show u=Λ.ref a from rx);obtain⟨_,_,_,n,_,h1⟩:=(show ObjOk X.prog X.w H s.heap a (.frz ob (.lst xs)) from I.hok a _ ea);exact kia_one kitx_list I.kIn ⟨_,h1,rfl⟩ e (λz=>by cases z) h| @tup a xs ea=>cases(show u=Λ.ref a from rx);obtain⟨_,_,_,p⟩:=(show ObjOk X.prog X.w H s.heap a (.tup xs) from I.hok a _ ea);obtain⟨o,h1,h2,_⟩:=p;exact kia_one PySem.W.kitx_tuple I.kIn ⟨o,h1,h2⟩ e (λz=>by cases z) h| @dK a kvs ea=>cases(show u=Λ.ref a from rx);obtain⟨_,_,vs,_,p⟩:=(show ObjOk X.prog X.w H s.heap a (.dK kvs) from I.hok a _ ea);obtain⟨o,es,ep,h1,h2,_⟩:=p;exact kia_one kitx_dict I.kIn ⟨o,h1,h2.1⟩ e (λz=>by cases z) h| @dT a kvs ea=>cases(show u=Λ.ref a from rx);obtain⟨_,_,xs,_,o,es,ep,h1,h2,_⟩:=(show ObjOk X.prog X.w H s.heap a (.dT kvs) from I.hok a _ ea);exact kia_one kitx_dict I.kIn ⟨o,h1,h2.1⟩ e (λz=>by cases z) h| @ins a C dx fs ea cl ha hn htk hm=>cases(show u=Λ.ref a from rx);obtain⟨mA,O,_⟩:=ins_get I.hok ea;obtain⟨od,J,_⟩:=O.look;exact kia_one (PySem.W.kitx_own (cl.get _) cl.hd ha hn htk hm) I.kIn J e (λz=>by cases z) h
end
structure Room(k:Nat)(A:ϑ):Prop where
 hd:A.handled=Ψ
 dp:A.depth+3*k+5<recursionLimit
 un:A.units+16*k+200<cLine
theorem Room.mono(r:Room k A)(h:j<=k):Room j A:=⟨r.hd,by have:=r.dp;lia,by have:=r.un;lia⟩
theorem Room.deeper(r:Room (k+1) A)(env):Room k (A.deeper env):=⟨r.hd,by have:=r.dp;show A.depth+1+3*k+5<_;lia,by have:=r.un;show A.units+3+16*k+200<_;lia⟩
theorem Room.in1(r:Room (k+1) A):Room k A.in1:=⟨r.hd,by have:=r.dp;show A.depth+3*k+5<_;lia,by have:=r.un;show A.units+1+16*k+200<_;lia⟩
theorem zib{A:ϑ}:(A.under (.builtin "type.__call__" ⟨.ref C::us,a⟩)).depth=A.depth+1:=by first|rfl|simp[Code.weight]
theorem zia{A:ϑ}:(A.under (.builtin "type.__call__" ⟨.ref C::us,a⟩)).units=A.units+1:=by first|rfl|simp[ϑ.under,Code.cUnits,Code.frames,Code.isFrame]
theorem Room.make(r:Room (k+1) A)(C)(us)(a):Room k (A.under (.builtin "type.__call__" ⟨.ref C::us,a⟩)):=⟨r.hd,by have:=r.dp;rw[zib];lia,by have:=r.un;rw[zia];lia⟩
theorem Room.depth(r:Room k A):A.depth<recursionLimit:=by have:=r.dp;lia
theorem Room.units(r:Room k A):A.units+64<cLine:=by have:=r.un;lia
def tNil:TA:=λ_ H Q=>Q [] H
def zo7(b:TE)(c:TA):TA:=λa H Q=>b a H λx d=>c a d λe f=>Q (x::e) f
section
variable{X:Cx}{e:Expr}{es:List Expr}{te:TE}{t:TA}{pos:Pos}
theorem zjp:PA X [] tNil:=λ_ _ _ _ H Q I h=>Calls.spliced_nil ⟨[],H,I,.nil,h⟩
theorem zdt(c:PE X e te)(d:PA X es t)(f:starEach (e::es) X.env=(Δ,eval e X.env)::starEach es X.env:=by rfl):PA X (e::es) (zo7 te t):=by intro pos a s b H Q I h;rw[f];show wpAny _ _ (spliced ((Δ,eval e X.env)::backTo pos (starEach es X.env))) _ _ s;refine Calls.spliced_cons (thn (c a s b H _ I h) λu g z=>?_);obtain⟨x,i,j,l,m⟩:=z;exact thn (d pos a g b i _ j m) λv w k=>(by obtain⟨n,o,p,q,r⟩:=k;exact ⟨x::n,o,p,.cons l q,r⟩)
def tTup(t:TA):TE:=λc H Q=>t c H λa b=>a.length<=sizeLine/\∀p,b p=Ψ->Q (.ref p) (upd b p (.tup a))
def tLst(t:TA):TE:=λc H Q=>t c H λa b=>a.length<=sizeLine/\∀p,b p=Ψ->Q (.ref p) (upd b p (.lst a))
theorem zpX(h:PA X es t):PE X (.Tuple es m pos) (tTup t):=by intro a s g H Q I i;refine wpAny_Tuple_spliced (thn (h pos a s g H _ I i) λj c ⟨k,d,f,r,z,q⟩=>⟨by rw[<-r.length];exact z,?_⟩);have l:d c.heap.objs.size=Ψ:=f.hok.fresh (le_refl _);refine⟨.ref c.heap.objs.size,upd d c.heap.objs.size (.tup k),f.laid (t':=c.toks) (λb u e=>Ω _ e) (le_refl _) ?_,rfl,q _ l⟩;exact⟨z,j,r,⟨_,Ι _ rfl,rfl,_,rfl⟩⟩
theorem zp2(h:PA X es t):PE X (.List es pos) (tLst t):=by intro a s g H Q I i;refine wpAny_List_spliced (thn (h pos a s g H _ I i) λj c ⟨k,d,f,r,z,q⟩=>⟨by rw[<-r.length];exact z,?_⟩);have l:d c.heap.objs.size=Ψ:=f.hok.fresh (le_refl _);refine⟨.ref c.heap.objs.size,upd d c.heap.objs.size (.lst k),f.laid (t':=c.toks) (λb u e=>Ω _ e) (le_refl _) ?_,rfl,q _ l⟩;exact⟨z,j,0,r,Ι _ rfl⟩
end
abbrev Sp:=List V->Hp->VK->XK->Prop
abbrev CXT:=List Env->Hp->Η->XK->Λ->Η->Prop
structure Env0(P:Τ)(w:ϐ)(K:Frag)(mg:Str->Option Λ)(base:Heap)(A:ϑ)(outer:List Env)(s:Η)(H:Hp):Prop where
 frames:A.frames=Φ outer
 mod:Mod K mg base
 bs:∀b o,base.get? b=Φ o->s.heap.get? b=Φ o/\H b=Ψ
 bsz:base.objs.size<=s.heap.objs.size
 funs:s.heap.FunFrames base outer
 frf:∀b∈frs outer,H b=Ψ
 hok:HOk P w H s.heap
 bare:AllBare s.gens
def CE(outer:List Env)(P:Τ)(w:ϐ)(H:Hp)(s:Η)(Q:VK)(u:Λ)(s':Η):Prop:=∃v a,s'.os=s.os/\AllBare s'.gens/\Un (frs outer) [] H a s.heap s'.heap/\HOk P w a s'.heap/\RelV v u/\Q v a
def CR(CX:CXT)(outer:List Env)(P:Τ)(w:ϐ)(H:Hp)(s:Η)(Q:VK)(E:XK)(r:Result)(s':Η):Prop:=match r with|.ok (.ret u)=>CE outer P w H s Q u s'|.ok _=>False|.error e=>CX outer H s E e s'
structure FnOk(P:Τ)(w:ϐ)(K:Frag)(mg:Str->Option Λ)(base:Heap)(CX:CXT)(k:Nat)(f:Addr)(fd:FuncData)(ps:List Str)(sp:Sp):Prop where
 len:∀vs H Q E,sp vs H Q E->vs.length=ps.length
 run:∀(A:ϑ)(outer:List Env)(s:Η)(H:Hp)(args:Args)(us:List Λ)(vs:List V)(Q:VK)(E:XK),Room k A->Env0 P w K mg base A outer s H->BindsTo s fd args (ps.zip us)->Vals vs us->sp vs H Q E->
  codeAny (model P w) A (.call (.ref f) args) (CR CX outer P w H s Q E) s
theorem FnOk.mono{K}(F:FnOk P w K b base CX j f g i sp)(h:j<=k):
 FnOk P w K b base CX k f g i sp:=⟨F.len,λA a s H args c d Q E e=>F.run A a s H args c d Q E (e.mono h)⟩
theorem Env0.make{K}(e:Env0 P w K a base A outer s H)(C)(us)(b):
 Env0 P w K a base (A.under (.builtin "type.__call__" ⟨.ref C::us,b⟩)) outer s H:=⟨by first|exact e.frames|(simpa[ϑ.under,Code.envs,Code.isFrame,pushEnvs]using e.frames),e.mod,e.bs,e.bsz,e.funs,e.frf,e.hok,e.bare⟩
theorem Env0.in1{K}(e:Env0 P w K a base A outer s H):
 Env0 P w K a base A.in1 outer s H:=⟨e.frames,e.mod,e.bs,e.bsz,e.funs,e.frf,e.hok,e.bare⟩
section
variable{X:Cx}{pins:List (Addr×Obj)}{σ:St}{H:Hp}{s s':Η}
theorem Inv.env0(I:Inv X pins σ H s):Env0 X.prog X.w X.K X.mg X.base X.A X.stack s H:=⟨I.ok.frames,I.ok.mod,I.bs,le_trans I.ok.bsz I.sz,I.stack,I.stkFree,I.hok,I.bare⟩
theorem Inv.after(I:Inv X pins σ H s)(h:CE X.stack X.prog X.w H s Q u s'):EP X pins σ Q u s':=by obtain⟨v,f,os,a,i,c,r,q⟩:=h;obtain⟨j,g,d,t,e⟩:=s';obtain rfl:e=s.os:=os;exact⟨v,f,I.call i c a (λb z=>absurd z (by simp)),r,q⟩
end
def ziO(sp:Sp)(a:List V)(E:XK)(t:TA):TE:=λb H Q=>t b H λc d=>sp (c++a) d Q E
def zmY(C:Addr)(sp:Sp)(b:List V)(E:XK)(t:TA):TE:=λd H Q=>t d H λe c=>∀x a,c x=Ψ->c a=Ψ->a≠x->
 sp (.ref x::(e++b)) (upd (upd c a (.own x)) x (.ins C a [])) (λv f=>v=.non/\Q (.ref x) f) E
def Binds(K:Frag)(d:FuncData)(b:List Str)(c:List Λ):Prop:=∀(s:Η)(a:List Λ),K.In s.heap->(a++c).length=b.length->BindsTo s d ⟨a,[]⟩ (b.zip (a++c))
theorem Binds.all{K}(h:∀us:List Λ,us.length=ps.length->bindArgs fd ⟨us,[]⟩=pure (ps.zip us)):Binds K fd ps []:=λs us _ a=>by rw[append_nil]at a⊢;exact .of_eq (h us a)
def zdW(CX:CXT)(X:Cx)(E:XK):Prop:=∀(a:List (Addr×Obj))(c:St)(H:Hp)(s:Η)(e:Λ)(b:Η),Inv X a c H s->CX X.stack H s E e b->X.xe e b
section
variable{X:Cx}{CX:CXT}{k:Nat}{f C:Addr}{fd:FuncData}{ps:List Str}{sp:Sp}{dvs:List V}{ds:List Λ}{E:XK}{x m:Str}{p pos apos:Pos}{e o:Expr}{es:List Expr}{ta:TE}{t:TA}
theorem zg2(F:FnOk X.prog X.w X.K X.mg X.base CX k f fd ps sp)(d:Room k X.A)(g:Binds X.K fd ps ds)(hd:Vals dvs ds)(i:zdW CX X E)(I:Inv X a σ H s)(r:Vals vs us)(h:sp (vs++dvs) H Q E):wpAny (model X.prog X.w) X.A (call (.ref f) us) (EP X a σ Q) X.xe s:=by
 have c:=r.append hd;have j:(us++ds).length=ps.length:=by rw[<-c.length];exact F.len _ _ _ _ h
 refine wpAny_call (ϩ (F.run X.A X.stack s H ⟨us,[]⟩ (us++ds) (vs++dvs) Q E d I.env0 (g s us I.kIn j) c h) λr l b=>?_);cases r with|error e=>exact i a σ H s e l I b| ok n=>cases n with|ret u=>exact I.after b|next=>exact False.elim b|brk=>exact False.elim b|cont=>exact False.elim b
theorem znP(F:FnOk X.prog X.w X.K X.mg X.base CX k f fd ps sp)(g:Room k X.A)(i:Gl X x)(j:X.mg x=Φ (.ref f))(l:keepIn X.K (.ref f)=Γ)(n:Binds X.K fd ps ds)(hd:Vals dvs ds)(u:zdW CX X E)
  (v:PA X (e::es) t) (b:(x==("__debug__":Str))=Δ:=by decide) (w:starEach (e::es) X.env=(Δ,eval e X.env)::starEach es X.env:=by rfl) (c:(backTo pos (starEach es X.env)).any (·.1)=Δ:=by rfl) :
  PE X (.Call (.Name x p) (e::es) [] pos) (ziO sp dvs E t):=by
 intro a s y H Q I h;refine wpAny_Call_Name_kw (zdC I i j ?_ b);exact callWith_K (h₀:=X.base) I.ok.mod.kin l (thn (v pos a s y H _ I h) λA B z=>eY z λG J d r q=>⟨d.kIn,(zg2 F g n hd u d r q)⟩) w c
theorem zlw(F:FnOk X.prog X.w X.K X.mg X.base CX k f fd ps sp)(c:Room k X.A)(d:Gl X x)(g:X.mg x=Φ (.ref f))(i:keepIn X.K (.ref f)=Γ)(j:Binds X.K fd ps ds)(hd:Vals dvs ds)(l:zdW CX X E)
  (a:(x==("__debug__":Str))=Δ:=by decide):PE X (.Call (.Name x p) [] [] pos) (ziO sp dvs E tNil):=by
 intro b s n H Q I h;refine wpAny_Call_Name_kw (zdC I d g ?_ a);exact callWith_K0 I.kIn i (zg2 (us:=[]) F c j hd l I .nil h)
structure Mk(K:Frag)(C f:Addr):Prop where
 makes:makesIn K C=Γ
 init:findIn K (.ref C) "__init__"=Φ (Φ (.ref f))
 fn:isFn K (.ref f)=Γ
 kp:keepIn K (.ref C)=Γ
theorem zg0(M:Mk X.K C f)(F:FnOk X.prog X.w X.K X.mg X.base CX k f fd ps sp)(j:Room (k+1) X.A)(l:Binds X.K fd ps ds)(hd:Vals dvs ds)(n:zdW CX X E)(I:Inv X b σ H s)(r:Vals vs us)(h:∀x c,H x=Ψ->H c=Ψ->c≠x->sp (.ref x::(vs++dvs)) (upd (upd H c (.own x)) x (.ins C c [])) (λv q=>v=.non/\Q (.ref x) q) E):
  wpAny (model X.prog X.w) X.A (call (.ref C) us) (EP X b σ Q) X.xe s:=by
 have g:=h (s.heap.objs.size+1) s.heap.objs.size (I.hok.fresh (le_succ _)) (I.hok.fresh (le_refl _)) (ne_of_lt (Nat.lt_succ_self _));have d:=Inv.made (C:=C) I;have i:Vals (V.ref (s.heap.objs.size+1)::(vs++dvs)) (Λ.ref (s.heap.objs.size+1)::(us++ds)):=.cons rfl (r.append hd);have w:(Λ.ref (s.heap.objs.size+1)::us++ds).length=ps.length:=by have e:=i.length;rw[F.len _ _ _ _ g]at e;exact e.symm
 refine wpAny_call (zlB I.kIn M.makes M.init (beq_iff_eq.mp M.fn) (ϩ (F.run _ X.stack _ _ ⟨Λ.ref (s.heap.objs.size+1)::us,[]⟩ (Λ.ref (s.heap.objs.size+1)::(us++ds)) _ _ E (j.make C us [])
  (d.env0.make C us []) (l _ (Λ.ref (s.heap.objs.size+1)::us) d.kIn w) i g) λr y a=>?_))
 cases r with|error e=>exact n b σ _ _ e y d a| ok z=>cases z with| ret u=>obtain⟨v,A,B,G,J,L⟩:=d.after a;subst J;exact⟨G,⟨V.ref (s.heap.objs.size+1),A,B,rfl,L⟩⟩|next=>exact False.elim a|brk=>exact False.elim a|cont=>exact False.elim a
theorem znM(M:Mk X.K C f)(F:FnOk X.prog X.w X.K X.mg X.base CX k f fd ps sp)(g:Room (k+1) X.A)(i:Gl X x)(j:X.mg x=Φ (.ref C))(l:Binds X.K fd ps ds)(hd:Vals dvs ds)(n:zdW CX X E)
  (u:PA X (e::es) t) (b:(x==("__debug__":Str))=Δ:=by decide) (v:starEach (e::es) X.env=(Δ,eval e X.env)::starEach es X.env:=by rfl) (c:(backTo pos (starEach es X.env)).any (·.1)=Δ:=by rfl) :
  PE X (.Call (.Name x p) (e::es) [] pos) (zmY C sp dvs E t):=by
 intro a s w H Q I h;refine wpAny_Call_Name_kw (zdC I i j ?_ b);exact callWith_K (h₀:=X.base) I.ok.mod.kin M.kp (thn (u pos a s w H _ I h) λy A z=>eY z λB G d r q=>⟨d.kIn,(zg0 M F g l hd n d r q)⟩) v c
theorem zlq(M:Mk X.K C f)(F:FnOk X.prog X.w X.K X.mg X.base CX k f fd ps sp)(c:Room (k+1) X.A)(d:Gl X x)(g:X.mg x=Φ (.ref C))(i:Binds X.K fd ps ds)(hd:Vals dvs ds)(j:zdW CX X E)
  (a:(x==("__debug__":Str))=Δ:=by decide):PE X (.Call (.Name x p) [] [] pos) (zmY C sp dvs E tNil):=by
 intro b s l H Q I h;exact wpAny_Call_Name_kw (zdC I d g (callWith_K0 I.kIn M.kp (zg0 (us:=[]) M F c i hd j I .nil h)) a)
end
section
variable{X:Cx}{CX:CXT}{k:Nat}{f C:Addr}{fd:FuncData}{ps ks:List Str}{sp:Sp}{E:XK}{x m:Str}{p pos apos kpos:Pos}{e o:Expr}{es:List Expr}{kws:List Keyword}{te ta:TE}{t tk:TA}{nm:Option Str}
structure KBinds(K:Frag)(fd:FuncData)(ps ks:List Str)(g:List Λ->List Λ->List Λ)(gV:List V->List V->List V):Prop where
 to:∀(s:Η)(us ws:List Λ),K.In s.heap->(g us ws).length=ps.length->BindsTo s fd ⟨us,ks.zip ws⟩ (ps.zip (g us ws))
 rel:∀{vs:List V}{us:List Λ}{zs:List V}{ws:List Λ},Vals vs us->Vals zs ws->Vals (gV vs zs) (g us ws)
end
structure FnScope(N P:List Str)(sc:Scope):Prop where
 kind:sc.kind=.function
 co:sc.isCoroutine=Δ
 gen:sc.isGenerator=Δ
 nd:N.Nodup
 pre:N.take P.length=P
 par:∀x∈P,sc.names.lookup x=Φ .local\/sc.names.lookup x=Φ .cell
 nofree:∀y∈sc.names,y.2≠.free
theorem zf4{kindOf}:∀{a:List (Str×Λ)}{m:Str->Option Λ},(∀v,(x,v)∉a)->bindL kindOf a m x=m x
 | [],_,_=>rfl| (n,v)::r,m,h=>by
  unfold bindL;rw[zf4 λw b=>h w (Ν _ b)];split;have:x≠n:=by rintro rfl;exact h v Ρ
  simp[this];rfl
theorem zf6{kindOf}:∀{a:List (Str×Λ)}{m:Str->Option Λ},(∀v,(x,v)∉a)->bindC kindOf a m x=m x
 | [],_,_=>rfl| (n,v)::r,m,h=>by
  unfold bindC;rw[zf6 λw b=>h w (Ν _ b)];split;rfl;have:x≠n:=by rintro rfl;exact h v Ρ
  simp[this]
theorem zf5{kindOf}:∀{P:List Str}{vs:List Λ}{i:Nat}{m:Str->Option Λ},P.Nodup->P[i]?=Φ x->vs[i]?=Φ v->kindOf x=Φ .local->
  bindL kindOf (P.zip vs) m x=Φ v
 | [],_,_,_,_,h,_,_=>by simp at h|_::_,[],_,_,_,_,h,_=>by simp at h| p::P,w::vs,0,m,c,a,b,d=>by simp at a b;subst a;subst b;show bindL kindOf ((p,w)::P.zip vs) m p=_;unfold bindL;rw[zf4 λv e=>(nodup_cons.mp c).1 (List.of_mem_zip e).1,if_pos d];simp| p::P,w::vs,i+1,m,c,a,b,d=>by unfold bindL;exact zf5 (i:=i) (nodup_cons.mp c).2 (by simpa using a) (by simpa using b) d
theorem zf7{kindOf}:∀{P:List Str}{vs:List Λ}{i:Nat}{m:Str->Option Λ},P.Nodup->P[i]?=Φ x->vs[i]?=Φ v->kindOf x≠Φ .local->
  bindC kindOf (P.zip vs) m x=Φ v
 | [],_,_,_,_,h,_,_=>by simp at h|_::_,[],_,_,_,_,h,_=>by simp at h| p::P,w::vs,0,m,c,a,b,d=>by simp at a b;subst a;subst b;show bindC kindOf ((p,w)::P.zip vs) m p=_;unfold bindC;rw[zf6 λv e=>(nodup_cons.mp c).1 (List.of_mem_zip e).1,if_neg d];simp| p::P,w::vs,i+1,m,c,a,b,d=>by unfold bindC;exact zf7 (i:=i) (nodup_cons.mp c).2 (by simpa using a) (by simpa using b) d
noncomputable def start(N:List Str)(vs:List V):St:=vs.map Φ++List.replicate (N.length-vs.length) Ψ
noncomputable def cxOf(CX:CXT)(P:Τ)(w:ϐ)(K:Frag)(mg:Str->Option Λ)(base:Heap)(N:List Str)(qual:Str)(scope:Scope)(f:Addr)(cd:Λ)(A:ϑ)(outer:List Env)(s:Η)(H:Hp)(E:XK):Cx where
 prog:=P
 w:=w
 K:=K
 mg:=mg
 base:=base
 A:=A.deeper (envOfC qual scope s.heap.objs.size f cd)
 N:=N
 s₀:=s
 H₀:=H
 env:=envOfC qual scope s.heap.objs.size f cd
 outer:=outer
 stack:=envOfC qual scope s.heap.objs.size f cd::outer
 ex:=[]
 calm:=Γ
 fn:=λ_=>Γ
 pn:=[]
 xe:=λe s'=>wpAny (model P w) (A.deeper (envOfC qual scope s.heap.objs.size f cd)) (leaving (envOfC qual scope s.heap.objs.size f cd) e) (λ_ s''=>CX outer H s E e s'') (λe' s''=>CX outer H s E e' s'') s'
theorem zhA{a:Scope}(h:a.names.lookup x=Φ .cell):∃c,(cellsFrom n a.names []).lookup x=Φ c:=by have q:=PySem.W.cellsFrom_some a.names n [] (.inl h);exact Option.isSome_iff_exists.mp q
theorem zj1{K}(S:FnScope N m scope)(hd:A.handled=Ψ)(j:Env0 P w K I base A outer s H)(U:vs.length=m.length)(r:Vals vs us)(x:InCallC s s.heap.objs.size (bindL (envOfC g scope s.heap.objs.size f G).kindOf (m.zip us) λ_=>Ψ) (cellsFrom (s.heap.objs.size+1) scope.names []) (bindC (envOfC g scope s.heap.objs.size f G).kindOf (m.zip us) λ_=>Ψ) M):
  Inv (cxOf CX P w K I base N g scope f G A outer s H E) [] (start N vs) H M:=by
 have O:m.length<=N.length:=by have:=congrArg List.length S.pre;rw[length_take]at this;lia
 obtain⟨B,Y,rfl,J⟩:=x.done;have l:∀b:Addr,b∉(cxOf CX P w K I base N g scope f G A outer s H E).ex:=λb z=>absurd (show b∈([]:List Addr) from z) (by simp);refine⟨⟨j.mod,S.kind,rfl,rfl,le_refl _,λy z c B d=>?_,λy n=>?_,λy c _ h=>?_,λ_=>hd,ϑ.frames_deeper j.frames,.inr ⟨rfl,rfl⟩,λb z=>absurd z (l b),j.bs,j.bsz,λb _ _=>l b,λb z=>absurd z (l b),j.funs,j.frf⟩,
  rfl,j.bare,Un.kept J,⟨_,x.toInCall.ns,λi y v B d h3=>?_⟩,λy c h=>⟨_,x.cell y c h⟩,j.hok.fresh (le_refl _),λy c h=>?_,λp o=>absurd (show p∈([]:List (Addr×Obj)) from o) (by simp),j.hok.kept J,?_⟩
 exact name_of_addr x.apart (PySem.mem_of_lookup B) (PySem.mem_of_lookup d);rcases n with n|n;exact zhA n;exact absurd rfl (S.nofree _ (PySem.mem_of_lookup n));exact le_of_lt (x.above y c (PySem.mem_of_lookup h));have C:i<vs.length:=by
  unfold start at d;by_cases C:i<vs.length;exact C
  . rw[getElem?_append_right (by simpa using C)]at d;rw[List.getElem?_replicate]at d;split at d<;>cases d
 have Q:vs[i]?=Φ v:=by
  unfold start at d;rw[getElem?_append_left (by simpa using C),getElem?_map]at d;cases e:vs[i]? with
  |none=>rw[e]at d;exact nS d
  |some a=>rw[e]at d;cases d;rfl
 obtain⟨u,L,T⟩:=r.get Q;have o:m[i]?=Φ y:=by rw[<-S.pre,List.getElem?_take_of_lt (by lia)];exact B
 have t:m.Nodup:=by rw[<-S.pre];exact S.nd.sublist (List.take_sublist _ _)
 refine⟨u,T,?_⟩;rcases S.par y (mem_of_getElem? o) with k|k;exact .inl ⟨k,zf5 t o L k⟩;obtain⟨c,e⟩:=zhA k;refine .inr ⟨.inl k,c,e,?_⟩;have q:=x.cell y c e;rw[zf7 t o L (by show scope.names.lookup y≠_;rw[k];decide)]at q;exact q;exact j.hok.fresh (le_of_lt (x.above y c (PySem.mem_of_lookup h)));unfold start;show _=N.length;rw[length_append,length_map,length_replicate];lia
theorem zsc{K}{U kV m Y c ct oc}(lk:K.lookup f=Φ ⟨oc,od,.func (fnOf name a d h scope U kV m Y an c ct),osl⟩)(B:codeIn K c a=Γ)(S:FnScope N C scope)(len:∀vs H Q E,sp vs H Q E->vs.length=C.length)(i:∀(A:ϑ)(outer:List Env)(s:Η)(H:Hp)(vs:List V)(Q:VK)(E:XK),Room k (A.deeper (envOfC a scope s.heap.objs.size f c))->sp vs H Q E->
   ∃t,PSs (cxOf CX P w K G base N a scope f c A outer s H E) h t/\t {nx:=λ_ H'=>Q .non H',rt:=Q} (start N vs) H):
  FnOk P w K G base CX (k+1) f (fnOf name a d h scope U kV m Y an c ct) C sp:=by
 refine⟨len,λA outer s H args us vs Q E L p hb r z=>?_⟩;have hl:=len _ _ _ _ z;have KX:=p.mod.kin.keeps λb o e=>(p.bs b o e).1;have M:=p.mod.nolimit.keeps λb o e=>(p.bs b o e).1;have j:∀y∈C.zip us,scope.names.lookup y.1=Φ .local\/(scope.names.lookup y.1=Φ .cell/\((cellsFrom (s.heap.objs.size+1) scope.names []).lookup y.1).isSome=Γ):=λ⟨n,v⟩ hy=>by rcases S.par n (List.of_mem_zip hy).1 with q|q;exact .inl q;exact .inr ⟨q,PySem.W.cellsFrom_some _ _ _ (.inl q)⟩
 refine codeAny_call_function L.depth (KX _ _ lk) rfl S.co S.gen rfl (PySem.W.codeRec_of KX B) (hb _ _ _ _ ?_);refine wpAny_newFunctionEnv_cells S.kind j λenv he s1 x=>?_;subst he;refine⟨M.keeps x.toInCall.keep,codeAny_func ?_⟩;obtain⟨t,ht,hq⟩:=i A outer s H vs Q E (L.deeper _) z;have I:Inv (cxOf CX P w K G base N a scope f c A outer s H E) [] (start N vs) H s1:=zj1 S L.hd p hl r x;refine Ϥ (ht [] s1 (start N vs) H _ I hq) (λfl O l=>?_) λe O l=>l;have fin:∀{g:St}{H':Hp}{v:V}{u:Λ},Inv (cxOf CX P w K G base N a scope f c A outer s H E) [] g H' O->RelV v u->Q v H'->CE outer P w H s Q u O:=λ{g H' v u} J T q=>⟨v,H',J.os,J.bare,J.base,J.hok,T,q⟩;cases fl with| ret u=>obtain⟨v,g,H',J,T,q⟩:=l;exact fin J T q| next=>obtain⟨g,H',J,q⟩:=l;exact fin (v:=V.non) J rfl q| brk=>obtain⟨_,_,_,q⟩:=l;exact False.elim q| cont=>obtain⟨_,_,_,q⟩:=l;exact False.elim q
section
variable{X:Cx}{x:Str}{p pos:Pos}{e:Expr}{es:List Expr}{t:TA}{id T:String}{r:List V->Hp->VK->Prop}
def tCB(r:List V->Hp->VK->Prop)(t:TA):TE:=λa H Q=>t a H λb c=>r b c Q
theorem zbY(f:za0 X (.builtin id) r)(g:Gl X x)(i:X.mg x=Ψ)(j:bootBuiltins x=Φ (.builtin id))(k:PA X (e::es) t)(l:x≠"__name__":=by decide)(b:(x==("__debug__":Str))=Δ:=by decide)
  (m:starEach (e::es) X.env=(Δ,eval e X.env)::starEach es X.env:=by rfl) (c:(backTo pos (starEach es X.env)).any (·.1)=Δ:=by rfl):PE X (.Call (.Name x p) (e::es) [] pos) (tCB r t):=by
 intro a s d H Q I h;refine wpAny_Call_Name_kw (zef I g i j ?_ l b);exact PyProof.Rows.callWith_builtin1 (thn (k pos a s d H _ I h) λn o z=>(by obtain⟨q,u,v,w,y⟩:=z;exact f a o d u q n Q v w y)) m c
theorem zaN(f:za0 X (.type T) r)(g:Gl X x)(i:X.mg x=Ψ)(j:bootBuiltins x=Φ (.type T))(k:PA X (e::es) t)(l:x≠"__name__":=by decide)(b:(x==("__debug__":Str))=Δ:=by decide)
  (m:starEach (e::es) X.env=(Δ,eval e X.env)::starEach es X.env:=by rfl) (c:(backTo pos (starEach es X.env)).any (·.1)=Δ:=by rfl):PE X (.Call (.Name x p) (e::es) [] pos) (tCB r t):=by
 intro a s d H Q I h;refine wpAny_Call_Name_kw (zef I g i j ?_ l b);exact PyProof.Rows.callWith_type1 (thn (k pos a s d H _ I h) λn o z=>(by obtain⟨q,u,v,w,y⟩:=z;exact f a o d u q n Q v w y)) m c
end
section
variable{κ:Type}[DecidableEq κ]
noncomputable def valV(a:List (κ×V))(k:κ):Option V:=(a.find? λb=>decide (b.1=k)).map (·.2)
noncomputable def putK(a:List (κ×V))(k:κ)(v:V):List (κ×V):=if(a.any λb=>decide (b.1=k))=Γ then a.map (λb=>if b.1=k then(b.1,v) else b) else a++[(k,v)]
theorem zgO{k:κ}(e:p.1=k):valV (p::r) k=Φ p.2:=by simp[valV,e]
theorem zgP{k:κ}(e:¬p.1=k):valV (p::r) k=valV r k:=by simp[valV,Ϫ,e]
theorem zgQ(k):∀a:List (κ×V),(a.any λb=>decide (b.1=k))=(valV a k).isSome
 | []=>rfl| p::r=>by rw[any_cons];by_cases e:p.1=k;simp only[zgO e,decide_eq_true e,Bool.true_or,Option.isSome_some];rw[zgP e,decide_eq_false e,Bool.false_or];exact zgQ k r
theorem zdA(a)(k:κ)(v):(putK a k v).length<=a.length+1:=by unfold putK;split;rw[length_map];lia;rw[length_append,length_cons,length_nil];lia
theorem RelO.isSome_eq(r:RelO o u):o.isSome=u.isSome:=by
 cases o with
 |none=>cases u with
  |none=>rfl|some _=>exact(show False from r).elim
 |some _=>cases u with|none=>exact(show False from r).elim|some _=>rfl
theorem RelO.getD(r:RelO o u)(a:RelV d d'):RelV (o.getD d) (u.getD d'):=by
 cases o with
 |none=>cases u with
  |none=>exact a|some _=>exact(show False from r).elim
 |some _=>cases u with|none=>exact(show False from r).elim|some _=>exact r
theorem KV.any(r:KV c vs)(k:κ):(c.any λa=>decide (a.1=k))=vs.any λa=>decide (a.1=k):=by unfold KV at r;induction r with|nil=>rfl|cons h t b=>rw[any_cons,any_cons,b,h.1]
theorem KV.repl(r:KV j vs)(k:κ)(c:RelV y u):
  KV (j.map λa=>if a.1=k then(a.1,y) else a) (vs.map λa=>if a.1=k then(a.1,u) else a):=by
 unfold KV at r⊢;induction r with|nil=>exact .nil| @cons p q g i h t d=>rw[ϋ,ϋ];refine .cons ?_ d;obtain⟨b,f⟩:=h;by_cases e:p.1=k;rw[if_pos e,if_pos (b.symm.trans e)];exact⟨b,c⟩;rw[if_neg e,if_neg (λz=>e (b.trans z))];exact⟨b,f⟩
theorem KV.put(r:KV c vs)(k:κ)(a:RelV y u):KV (putK c k y) (stored vs k u):=by unfold putK stored;rw[r.any k];by_cases e:(vs.any λb=>decide (b.1=k))=Γ;rw[if_pos e,if_pos e];exact r.repl k a;rw[if_neg e,if_neg e];exact Paired.snoc r ⟨rfl,a⟩
theorem KV.length{vs:List (κ×Λ)}(r:KV a vs):a.length=vs.length:=Paired.length r
end
theorem zqL(r:RelV (kV k) u):(zaf P w).is k u=Γ:=by cases k with|inl i=>obtain⟨t,e⟩:=(show ∃t,u=Λ.int i t from r);subst e;exact zgx P w i t|inr x=>obtain⟨t,e⟩:=(show ∃t,u=Λ.str x t from r);subst e;exact zgw P w x t
theorem zfF:∀{ks:List Key}{us:List Λ},Vals (ks.map kV) us->ItemsAre (zaf P w) ks us
 | [],_,r=>by rw[map_nil]at r;cases r;exact .nil| k::ks,_,r=>by rw[ϋ]at r;cases r with|cons h t=>exact .cons (zqL h) (zfF t)
abbrev KT(H:Hp):List (List Key×V)->List (List Key×Addr×Λ)->Prop:=Paired λp q=>p.1=q.1/\H q.2.1=Φ (.tup (p.1.map kV))/\RelV p.2 q.2.2
theorem KT.val(r:KT H j xs)(k):RelO (valV j k) ((atKey xs k).map (·.2)):=by
 induction r with
 |nil=>exact True.intro| @cons p q i a h t f=>
  obtain⟨d,_,g⟩:=h;by_cases e:p.1=k;have c:q.1=k:=d.symm.trans e;have b:atKey (q::a) k=Φ q.2:=by simp[atKey,Ϫ,c]
  rw[zgO e,b];exact g;have c:¬q.1=k:=λz=>e (d.trans z);have b:atKey (q::a) k=atKey a k:=by simp[atKey,Ϫ,c]
  rw[zgP e,b];exact f
theorem KT.repl(r:KT H l xs)(k)(d:RelV y u):
  KT H (l.map λb=>if b.1=k then(b.1,y) else b) (xs.map (putAt k u)):=by
 induction r with|nil=>exact .nil| @cons p q i j h t f=>rw[ϋ];refine .cons ?_ f;obtain⟨a,c,g⟩:=h;unfold putAt;by_cases e:p.1=k;rw[if_pos e,if_pos (a.symm.trans e)];exact⟨a,c,d⟩;rw[if_neg e,if_neg (λz=>e (a.trans z))];exact⟨a,c,g⟩
theorem KT.put(r:KT H a xs)(k)(d:H b=Φ (.tup (k.map kV)))(c:RelV y u):
  KT H (putK a k y) (storedH xs k b u):=by
 have e:(a.any λf=>decide (f.1=k))=(atKey xs k).isSome:=by rw[zgQ,(r.val k).isSome_eq,Option.isSome_map]
 unfold putK storedH;rw[e];by_cases q:(atKey xs k).isSome=Γ;rw[if_pos q,if_pos q];exact r.repl k c;rw[if_neg q,if_neg q];exact Paired.snoc r ⟨rfl,d,c⟩
theorem KT.keeps(r:KT H c xs)(a:∀b ys,H b=Φ (.tup ys)->H' b=Φ (.tup ys)):KT H' c xs:=Paired.mapP r λ_ _ z=>⟨z.1,a _ _ z.2.1,z.2.2⟩
section
variable{P:Τ}{w:ϐ}{H:Hp}{h:Heap}{a:Addr}
theorem zpH(ok:HOk P w H h)(e:Rd H a u):ObjOk P w H h a u:=e.ok ok
theorem zsi(ok:HOk P w H h)(e:Rd H a (.dK b)):b.length<=sizeLine/\(a==sysModules)=Δ/\∃vs,KV b vs/\h.DictOf (zaf P w) a vs:=show ObjOk P w H h a (.dK b) from zpH ok e
theorem zsj(ok:HOk P w H h)(e:H a=Φ (.dK b)):b.length<=sizeLine/\(a==sysModules)=Δ/\∃vs,KV b vs/\h.DictOf (zaf P w) a vs:=zsi ok (.inl e)
theorem zhj(ok:HOk P w H h)(e:H a=Φ (.tup (ks.map kV))):(tupleKind (zaf P w)).is h ks a:=by obtain⟨_,b,r,o,c,d,n,f⟩:=(show ObjOk P w H h a (.tup (ks.map kV)) from ok a _ e);exact⟨o,b.toArray,n,c,d,f,by simpa using zfF r⟩
theorem zsg(ok:HOk P w H h)(e:Rd H a (.dT b)):b.length<=sizeLine/\(a==sysModules)=Δ/\
  ∃xs,KT H b xs/\h.DictOfH (tupleKind (zaf P w)) a xs:=by
 obtain⟨z,y,xs,r,o,g,i,j,k,n,s,u⟩:=(show ObjOk P w H h a (.dT b) from zpH ok e);refine⟨z,y,xs,r,o,g,i,j,k,n,s,λx c=>?_,u⟩;have d:∀{l:List (List Key×V)}{m:List (List Key×Addr×Λ)},KT H l m->∀x∈m,(tupleKind (zaf P w)).is h x.1 x.2.1:=by
  intro l m q;induction q with
  |nil=>intro x c;exact by cases c
  | @cons p q A B f t v=>intro x c;rcases mem_cons.mp c with e|c;subst e;exact zhj ok (by rw[<-f.1];exact f.2.1);exact v x c
 exact d r x c
theorem zsh(ok:HOk P w H h)(e:H a=Φ (.dT b)):b.length<=sizeLine/\(a==sysModules)=Δ/\
 ∃xs,KT H b xs/\h.DictOfH (tupleKind (zaf P w)) a xs:=zsg ok (.inl e)
end
def DGet(H:Hp)(a:Addr)(y:V)(r:Option V):Prop:=(∃c k,Rd H a (.dK c)/\y=kV k/\r=valV c k)\/∃c k b,Rd H a (.dT c)/\y=.ref b/\H b=Φ (.tup (k.map kV))/\r=valV c k
def DPut(H:Hp)(a:Addr)(y v:V)(H':Hp):Prop:=
 (∃c k,H a=Φ (.dK c)/\y=kV k/\c.length<sizeLine/\H'=upd H a (.dK (putK c k v)))\/
 ∃c k b,H a=Φ (.dT c)/\y=.ref b/\H b=Φ (.tup (k.map kV))/\c.length<sizeLine/\H'=upd H a (.dT (putK c k v))
theorem DGet.k{k}(e:H a=Φ (.dK b)):DGet H a (kV k) (valV b k):=.inl ⟨b,k,.inl e,rfl,rfl⟩
theorem DPut.k{k}(e:H a=Φ (.dK c))(b:c.length<sizeLine):DPut H a (kV k) v (upd H a (.dK (putK c k v))):=.inl ⟨c,k,e,rfl,b,rfl⟩
section
variable{X:Cx}{pins:List (Addr×Obj)}{σ:St}{H:Hp}{s:Η}{a:Addr}{y v:V}{u r:Λ}{o:Option V}{A:ϑ}{E:Λ->Η->Prop}
theorem Inv.big(I:Inv X pins σ H s):sysModules<s.heap.objs.size:=by have h:=(I.mod.glob.keeps I.bk).lt;exact lt_trans (by decide) h
theorem zgH(I:Inv X pins σ H s)(d:Mut (H a))(e:Heap.SameBut a s.heap h')(f:∃q,h'.get? a=Φ q)(new:ObjOk X.prog X.w (upd H a c) h' a c):
  Inv X pins σ (upd H a c) {s with heap:=h',toks:=t'}:=
 I.write d (.inl rfl) (λb q g z=>(e.2 b g).trans z) f new
theorem zq1(z:b.length<=sizeLine)(hd:(a==sysModules)=Δ)(c:KV b vs)(d:h'.DictOf (zaf P w) a vs):
 ObjOk P w H' h' a (.dK b):=⟨z,hd,vs,c,d⟩
theorem zkr(M:A.units+1<cLine)(I:Inv X pins σ H s)(g:DPut H a y v H')(B:RelV y u)(C:RelV v r)(h:∀s',Inv X pins σ H' s'->Q () s'):
  wpAny (model X.prog X.w) A (setItem (.ref a) u r) Q E s:=by
 rcases g with⟨d,k,e,m,l,n⟩|⟨d,k,b,e,m,G,l,n⟩
 . subst m n;obtain⟨z,p,N,f,t⟩:=zsj I.hok e;have O:N.length<=sizeLine:=by rw[<-f.length];exact z
   have w:(putK d k v).length<=sizeLine:=by have:=zdA d k v;lia
   refine wpAny_setItem_pairs (zqL B) t λJ i x=>h _ ?_;have T:∃q,J.get? a=Φ q:=let ⟨q,_,_,j,_⟩:=i;⟨q,j⟩;exact zgH I (by rw[e];exact True.intro) x T (zq1 w p (f.put k C) i)
 subst m n;cases(show u=Λ.ref b from B);obtain⟨z,p,U,f,t⟩:=zsh I.hok e;have O:U.length<=sizeLine:=by rw[<-Paired.length f];exact z
 have w:(putK d k v).length<=sizeLine:=by have:=zdA d k v;lia
 refine wpAny_setItem_heap (tupleKind_room_in1 M) (zhj I.hok G) t λJ i x=>h _ ?_;obtain⟨q,Y,ep,j,h2,h3,h4,_,h5⟩:=i;refine zgH I (by rw[e];exact True.intro) x ⟨q,j⟩ ⟨w,p,_,(f.put k G C).keeps λc ys L=>?_,q,Y,ep,j,h2,h3,h4,h5⟩;rw[zak (ne_of L e (λz=>by cases z))];exact L
end
structure M1(X:Cx)(o:Expr)(m:Str)(apos:Pos)(e:Expr)(cpos:Pos):Prop where
 base:attributeBase o m X.env (eval o X.env)=eval o X.env
 few:((backTo cpos (starEach [e] X.env)).all (λx=>!x.1)&&(backToKw cpos (keywordEach [] X.env)).all (λx=>x.1.isSome)
  && decide (([e]:List Expr).length+([]:List Keyword).length+(if([]:List Keyword).isEmpty then 0 else 1)<30))=Γ
 line:(apos.endLine==cpos.line)=Γ
 trees:backTo cpos (starEach [e] X.env)=[(Δ,eval e X.env)]
structure M2(X:Cx)(o:Expr)(m:Str)(apos:Pos)(e f:Expr)(cpos:Pos):Prop where
 base:attributeBase o m X.env (eval o X.env)=eval o X.env
 few:((backTo cpos (starEach [e,f] X.env)).all (λx=>!x.1)&&(backToKw cpos (keywordEach [] X.env)).all (λx=>x.1.isSome)
  && decide (([e,f]:List Expr).length+([]:List Keyword).length+(if([]:List Keyword).isEmpty then 0 else 1)<30))=Γ
 line:(apos.endLine==cpos.line)=Γ
 trees:backTo cpos (starEach [e,f] X.env)=[(Δ,eval e X.env),(Δ,eval f X.env)]
end L2
namespace HT
open PySem PyProof.Rows
noncomputable def lexLt:List Int->List Int->Bool
 | [],[]=>Δ| [],_::_=>Γ|_::_,[]=>Δ|x::a,y::b=>if x=y then lexLt a b else decide (x<y)
theorem zie(x y)(xs ys):lexLt (x::xs) (y::ys)=if x=y then lexLt xs ys else decide (x<y):=rfl
theorem zeU:lexLt [] []=Δ:=rfl
theorem zd3(y)(ys):lexLt [] (y::ys)=Γ:=rfl
theorem zd4(x)(xs):lexLt (x::xs) []=Δ:=rfl
theorem zlR(A)(s)(a)(t)(c)(u):∃e,SeqAt.EqAt A s (.int a t) (.int c u) e/\(e=Γ↔a=c):=⟨(a==c),SeqAt.EqAt.int_int a t c u,by simp⟩
theorem zlc(A)(s)(a)(t)(c)(u)(prog)(w)(E)(Q)(h:Q (.bool (decide (a<c))) s):
  wpAny (model prog w) A (richCompare .Lt (.int a t) (.int c u)) Q E s:=
 (PyProof.Rows.lt_int h:wpAny (model prog w) A (compareOp .Lt (.int a t) (.int c u)) Q E s)
section
open PySem.SeqAt
open PySem.AutoSeq1 (wpAny_loadPart')
open PySem.MeetsSeq PySem.MeetsSeq2 PySem.MeetsSeq3
theorem zeB(l b)(items f)(n n2)(dd N)(sl O)(ns H)(Y:IntsAre items.toList ns)(hj:IntsAre f.toList H):
  Meets (Builtin.«tuple.__lt__» ⟨[.ref l,.ref b],[]⟩)
   (λ_ R s=>s.heap.get? l=Φ {cls:=.type "tuple",dict:=dd,data:=.seq items n,slots:=sl}/\s.heap.get? b=Φ {cls:=.type "tuple",dict:=N,data:=.seq f n2,slots:=O}/\
    R (.ok (.ret (.bool (lexLt ns H)))) s):=
 .of_wp λprog w A R s h=>by
  obtain⟨I,g,d,J,os⟩:=s;obtain⟨hl,hb,h⟩:=h;have f2:=AutoSeq1.sub_tuple_tuple;have z1:items.size=ns.length:=by rw[<-Y.length];simp
  have z2:f.size=H.length:=by rw[<-hj.length];simp
  wp_walk using wpAny_loadPart' hl,wpAny_loadPart' hb,ϙ _ (λp b Q=>b.1=Ψ/\Q=⟨I,g,d,J,os⟩/\∃(L M:List Λ) (j k:List Int),p=L.zip M/\
   IntsAre L j/\IntsAre M k/\j.length+f.size=k.length+items.size/\R (.ok (.ret (.bool (lexLt j k)))) ⟨I,g,d,J,os⟩) _
  case turn=>
   rintro⟨y,x⟩ p b Q ⟨z,rfl,L,M,j,k,m,B,o,i,r⟩;cases B with
   |nil=>rw[List.zip_nil_left]at m;cases m
   |cons a t E=>
    cases o with
    |nil=>rw[List.zip_nil_right]at m;cases m
    |cons c u G=>
     rw[List.zip_cons_cons]at m;injection m with T C;injection T with hy hx;subst hy hx;rw[zie]at r;simp only[length_cons]at i;obtain⟨e,he,v⟩:=zlR A.in1 ⟨I,g,d,J,os⟩ a t c u;refine Θ (he prog w _ _ ?_);cases e with
     |true=>
      rw[if_pos (v.mp rfl)]at r
      wp_walk
      exact⟨rfl,rfl,_,_,_,_,C,E,G,by lia,r⟩
     |false=>
      rw[if_neg (λq=>absurd (v.mpr q) Ζ)]at r;have U:=zlc A.in1 ⟨I,g,d,J,os⟩ a t c u prog w
      wp_walk using U
      exact⟨_,rfl,by simpa using r⟩
  case fin=>
   rintro⟨b1,b2⟩ Q ⟨z,rfl,L,M,j,k,m,B,o,i,r⟩;simp only at z;subst z;have hv:lexLt j k=decide (items.size<f.size):=by
    cases B with
    |nil=>cases o with| nil=>simp only[length_nil]at i;rw[zeU];exact(decide_eq_false (by lia)).symm| cons c u hw=>simp only[length_nil,length_cons]at i;rw[zd3];exact(decide_eq_true (by lia)).symm
    |cons a t hv=>cases o with| nil=>simp only[length_nil,length_cons]at i;rw[zd4];exact(decide_eq_false (by lia)).symm| cons c u hw=>rw[List.zip_cons_cons]at m;cases m
   rw[hv]at r
   wp_walk
   exact⟨_,rfl,by simpa[Builtin.Tuple.tupleCompareSizes]using r⟩
  case h=>exact⟨rfl,rfl,items.toList,f.toList,ns,H,rfl,Y,hj,by lia,h⟩
end
section
variable{prog:Τ}{w:ϐ}{A:ϑ}{E:Λ->Η->Prop}{s:Η}
theorem lt_tupInts(o:IsTup s.heap l items)(p:IsTup s.heap b a)(q:IntsAre items.toList ns)(r:IntsAre a.toList d)(t:A.units<cLine)(h:Q (.bool (lexLt ns d)) s):wpAny (model prog w) A (compareOp .Lt (.ref l) (.ref b)) Q E s:=by
 obtain⟨⟨u,v,j,y⟩,k,z,n,B⟩:=id o;obtain⟨⟨m,e,data2,f⟩,c,g,C,i⟩:=id p;subst z B g i;exact richCompare_meets_room (op:=.Lt) ⟨_,k,rfl⟩ ⟨_,c,rfl⟩ PySem.F.slot_tuple_lt PySem.F.entry_tuple_lt (PySem.F.args_tuple_lt_2 _ _) (zeB l b items a n C v e y f ns d q r)
  ⟨k,c,show Λ.bool (lexLt ns d)≠Λ.notImplemented/\Q (.bool (lexLt ns d)) s from⟨(λx=>by cases x),h⟩⟩ t
theorem cat_tup(u:IsTup s.heap t vs.toArray)(v:IsTup s.heap b a.toArray)(k:vs≠[])(x:a=[]->Q (.ref t) s)(y:a≠[]->Q (.ref s.heap.objs.size) {s with heap:=s.heap.push {cls:=.type "tuple",data:=.seq (vs++a).toArray}})(z:vs.length+a.length<=sizeLine):wpAny (model prog w) A (binaryOp .Add (.ref t) (.ref b)) Q E s:=by
 obtain⟨⟨cls,l,data,m⟩,i,o,n,p⟩:=id u;obtain⟨⟨q,d,data2,f⟩,c,g,r,h⟩:=id v;simp only at o p g h;subst o p g h;have e:vs.toArray++a.toArray=(vs++a).toArray:=by simp
 by_cases j:a=[]
 exact concat_meets ⟨_,i,rfl⟩ ⟨_,c,rfl⟩ noFill_tuple_add seq_tuple_add PySem.F.slot_tuple_add PySem.F.entry_tuple_add (PySem.F.args_tuple_add_2 _ _)
  (tuple_addW1 t b vs.toArray a.toArray n r l d m f (by simpa using k) (by simp[j])) ⟨i,c,x j⟩
 refine concat_meets ⟨_,i,rfl⟩ ⟨_,c,rfl⟩ noFill_tuple_add seq_tuple_add PySem.F.slot_tuple_add PySem.F.entry_tuple_add (PySem.F.args_tuple_add_2 _ _)
  (tuple_addW2 t b vs.toArray a.toArray n r l d m f (by simpa using k) (by simpa using j) (by rw[size_toArray,size_toArray];exact z)) ⟨i,c,?_⟩
 rw[e];exact y j
noncomputable def sIx(n d:Nat):Option Int->Nat
 |none=>d|some v=>if v<0 then(v+(n:Int)).toNat else min v.toNat n
theorem zpD(n d)(hd:d<=n)(o):sIx n d o<=n:=by cases o with|none=>exact hd| some v=>show(if v<0 then(v+(n:Int)).toNat else min v.toNat n)<=n;by_cases a:v<0;rw[if_pos a];lia;rw[if_neg a];exact Nat.min_le_right _ _
theorem zkv(v)(n d:Nat):(if v<0 then max (v+(n:Int)) 0 else min v (n:Int))=((sIx n d (Φ v):Nat):Int):=by show(if v<0 then max (v+(n:Int)) 0 else min v (n:Int))=(((if v<0 then(v+(n:Int)).toNat else min v.toNat n):Nat):Int);by_cases a:v<0;simp only[if_pos a];lia;simp only[if_neg a];lia
theorem ziu(lo a)(n:Nat):Builtin.Slice.sliceAdjust lo a 1 (n:Int)=(((sIx n 0 lo:Nat):Int),((sIx n n a:Nat):Int)):=by
 have b:¬((1:Int)<0):=by lia
 unfold Builtin.Slice.sliceAdjust;simp only[b,if_false];refine Prod.ext ?_ ?_;cases lo with|none=>rfl|some v=>exact zkv v n 0
 cases a with|none=>rfl|some v=>exact zkv v n n
theorem zh0(i j:Nat):Builtin.Slice.slicePlaces (i:Int) (j:Int) 1=j-i:=by
 unfold Builtin.Slice.slicePlaces;have h1:(1:Int)>0:=by lia
 simp only[h1,if_true,Int.ediv_one];split<;>lia
theorem slicePart_(p:IsPart v o)(h:Q o s):wpAny (model prog w) A (Builtin.Slice.slicePartIndex v) Q E s:=by cases p with|none=>exact slicePart_none h|int i t=>exact slicePart_int h
theorem sliceApplied_gen{lo hi}{Q:Int×Int×Nat->Η->Prop}(hs:s.heap.IsSliceOf sl vl vu .none)(pl:IsPart vl lo)(pu:IsPart vu hi)(h:Q (((sIx n 0 lo:Nat):Int),1,sIx n n hi-sIx n 0 lo) s):wpAny (model prog w) A (Builtin.Slice.sliceApplied (.ref sl) (pure (n:Int))) Q E s:=by
 obtain⟨os,hos,hcs,hds⟩:=id hs;unfold Builtin.Slice.sliceApplied Builtin.Slice.sliceFields;refine Θ (Θ (ϯ hos hds (x:=vl) rfl (Θ (ϯ hos hds (x:=vu) rfl (Θ (ϯ hos hds (x:=.none) rfl (Ξ ?_)))))));refine Θ (slicePart_none ?_);show wpAny _ _ (if((1:Int)==0)=Γ then _ else _) _ _ s;rw[if_neg (by decide)];refine Θ (slicePart_ pl (Θ (slicePart_ pu (Θ (Ξ ?_)))));show wpAny _ _ (match Builtin.Slice.sliceAdjust lo hi 1 (n:Int) with|(lo,hi)=>pure (lo,(1:Int),Builtin.Slice.slicePlaces lo hi 1)) _ _ s;rw[ziu lo hi n];show wpAny _ _ (pure (((sIx n 0 lo:Nat):Int),(1:Int),Builtin.Slice.slicePlaces ((sIx n 0 lo:Nat):Int) ((sIx n n hi:Nat):Int) 1)) _ _ s;rw[zh0];exact Ξ h
theorem zlk(xs:Array Λ)(i k:Nat):((List.range k).filterMap λ(m:Nat)=>xs[((i:Int)+(m:Int)*1).toNat]?).toArray=((xs.toList.drop i).take k).toArray:=by
 have e:(λ(m:Nat)=>xs[((i:Int)+(m:Int)*1).toNat]?)=λm=>xs[i+m]?:=by
  funext m;have:((i:Int)+(m:Int)*1).toNat=i+m:=by lia
  rw[this]
 rw[e];have:=pick_run xs i k;rw[List.filterMap_map]at this;have a:((λx=>xs[x]?)∘λx=>i+x)=λm=>xs[i+m]?:=rfl;rw[a]at this;rw[this]
theorem getItem_tuple_cut{lo hi}(ht:IsTup s.heap t items)(hs:s.heap.IsSliceOf sl vl vu .none)(pl:IsPart vl lo)(pu:IsPart vu hi)(hw:¬(sIx items.size 0 lo=0/\sIx items.size items.size hi=items.size))(h:Q (.ref s.heap.objs.size) {s with heap:=s.heap.push {cls:=.type "tuple",data:=.seq ((items.toList.drop (sIx items.size 0 lo)).take (sIx items.size items.size hi-sIx items.size 0 lo)).toArray}})(hsz:items.size<=sizeLine):wpAny (model prog w) A (getItem (.ref t) (.ref sl)) Q E s:=by
 have htake:sizeOk (.seq ((items.toList.drop (sIx items.size 0 lo)).take (sIx items.size items.size hi-sIx items.size 0 lo)).toArray):=by show((items.toList.drop (sIx items.size 0 lo)).take (sIx items.size items.size hi-sIx items.size 0 lo)).toArray.size<=sizeLine;rw[size_toArray,length_take,List.length_drop,length_toList];omega
 obtain⟨os,hos,hcs,hds⟩:=id hs;have hTs:s.TypeIs (.ref sl) "slice":=⟨os,hos,hcs⟩;unfold getItem
 try with_reducible refine ϖ ?_
 refine Θ (wpAny_sequenceKey ht.typeIs (by decide) ?_);refine Θ (Ϛ ht.typeIs PyProof.Rows.slot_tuple_getitem
  (ύ PyProof.Rows.slot_tuple_getitem ht.typeIs entry_tuple_getitem ?_ (args_tuple_getitem _ _)))
 show wpAny _ _ (Builtin.Tuple.tupleItemsOf (.ref t)>>=_) _ _ s;refine Θ (tupleItemsOf_ ht ?_);refine Θ (wpAny_typeOf hTs ?_);refine Θ (sliceApplied_gen hs pl pu ?_);have hno:¬((((sIx items.size 0 lo:Nat):Int)==0&&(1:Int)==1&&(sIx items.size items.size hi-sIx items.size 0 lo)==items.size)=Γ):=by intro q;rw[Α,Α]at q;have q1:=eq_of_beq q.1.1;have q2:=eq_of_beq q.2;exact hw ⟨by omega,by omega⟩
 show wpAny _ _ (if(((sIx items.size 0 lo:Nat):Int)==0&&(1:Int)==1&&(sIx items.size items.size hi-sIx items.size 0 lo)==items.size)=Γ then _ else _) _ _ s;rw[if_neg hno,zlk]
 first
  |exact Θ (ό (Ξ ⟨_,rfl,Ξ h⟩) htake)
  |exact Θ (ό (Θ (Ξ (Ξ ⟨_,rfl,Ξ h⟩))) htake)
  |exact Θ (Θ (ό (Ξ (Ξ ⟨_,rfl,Ξ h⟩)) htake))
  |exact Θ (Θ (ό (Ξ ⟨_,rfl,Ξ h⟩) htake))
end
end HT
namespace L2
open PySem PySem.Spec PyProof.Rows
abbrev TO:=St->Hp->(Option Int->Hp->Prop)->Prop
def PO(X:Cx)(e:Option Expr)(t:TO):Prop:=
 ∀(a:List (Addr×Obj))(s:Η)(b:St)(H:Hp)(Q:Option Int->Hp->Prop),Inv X a b H s->t b H Q->
  wpAny (model X.prog X.w) X.A (evalPart e X.env) (λu d=>∃o c,Inv X a b c d/\IsPart u o/\Q o c) X.xe s
def zmX:TO:=λ_ H Q=>Q Ψ H
def zo5(t:TE):TO:=λa H Q=>t a H λx b=>∃i,x=.int i/\Q (Φ i) b
theorem zbq:∀{us:List Λ},Vals (ns.map V.int) us->IntsAre us ns:=by induction ns with|nil=>intro us r;cases r;exact .nil| cons n ns a=>intro us r;cases r with| cons b c=>obtain⟨t,e⟩:=b;subst e;exact .cons n t (a c)
section
variable{X:Cx}{e:Expr}{te:TE}{lo hi:Option Expr}{tl th:TO}{pos p2:Pos}
theorem zgt:PO X Ψ zmX:=by intro a s b H Q I h;exact Ξ ⟨Ψ,H,I,.none,h⟩
theorem zjh(h:PE X e te):PO X (Φ e) (zo5 te):=by intro a s b H Q I c;rw[evalPart_some];refine thn (h a s b H _ I c) λu k z=>?_;obtain⟨x,d,f,g,j⟩:=z;obtain⟨i,rfl,q⟩:=j;obtain⟨t,rfl⟩:=g;exact⟨Φ i,d,f,.int i t,q⟩
def SlR(X:Cx)(r:V->Option Int->Option Int->Hp->VK->Prop):Prop:=
 ∀(pins:List (Addr×Obj))(s:Η)(σ:St)(H:Hp)(x:V)(v vl vu:Λ)(lo hi:Option Int)(sl:Addr)(Q:VK),Inv X pins σ H s->RelV x v->s.heap.IsSliceOf sl vl vu .none->IsPart vl lo->IsPart vu hi->r x lo hi H Q->
  ∃T id,typeLookup (.type T) "__getitem__"=pure (Φ (.builtin id))/\s.TypeIs v T/\wpAny (model X.prog X.w) X.A (getItem v (.ref sl)) (EP X pins σ Q) X.xe s
theorem SlR.or(h:SlR X r)(h':SlR X l):SlR X (λx lo hi H Q=>r x lo hi H Q\/l x lo hi H Q):=by intro a s b H x v c d lo hi f Q I g i j k q;rcases q with q|q;exact h a s b H x v c d lo hi f Q I g i j k q;exact h' a s b H x v c d lo hi f Q I g i j k q
def tSl(r:V->Option Int->Option Int->Hp->VK->Prop)(te:TE)(tl th:TO):TE:=λa H Q=>te a H λx b=>tl a b λl c=>th a c λu d=>r x l u d Q
theorem zlo(j:SlR X r)(k:PE X e te)(m:PO X lo tl)(n:PO X hi th):PE X (.Subscript e (.Slice lo hi Ψ p2) pos) (tSl r te tl th):=by intro a s c H Q I h;refine Subscript_ (thn (k a s c H _ I h) λv o z=>?_);obtain⟨x,p,t,w,y⟩:=z;refine wpAny_Slice (thn (m a o c p _ t y) λf A z=>eY z λl B C E G=>thn (n a A c B _ C G) λg d z=>?_);obtain⟨u,i,J,L,M⟩:=z;refine Ξ ?_;have N:Inv X a c i {d with heap:=d.heap.push {cls:=.type "slice",data:=.fields #[f,g,.none]}}:=J.kept λb ob q=>Ω _ q;obtain⟨T,id,O,U,Y⟩:=j a {d with heap:=d.heap.push {cls:=.type "slice",data:=.fields #[f,g,.none]}} c i x v f g l u d.heap.objs.size Q N w (Heap.IsSliceOf.new ..) E L M;exact tail_any U O Y (by with_unfolding_all rfl)
noncomputable def cutV(xs:List V)(lo hi:Option Int):List V:=(xs.drop (HT.sIx xs.length 0 lo)).take (HT.sIx xs.length xs.length hi-HT.sIx xs.length 0 lo)
theorem zdP(xs)(lo hi):(cutV xs lo hi).length<=xs.length:=by unfold cutV;rw[length_take,List.length_drop];lia
def rSlT(K:Frag):V->Option Int->Option Int->Hp->VK->Prop:=λx lo hi H Q=>∃a b,x=.ref a/\SqT K H a b/\
 ¬(HT.sIx b.length 0 lo=0/\HT.sIx b.length b.length hi=b.length)/\∀p,H p=Ψ->Q (.ref p) (upd H p (.tup (cutV b lo hi)))
theorem zpg:SlR X (rSlT X.K):=by
 intro g s t H x v u w lo hi y Q I k l m n h;obtain⟨a,d,rfl,o,p,q⟩:=h;cases k;obtain⟨f,r,i,j⟩:=I.tuple o;have c:f.toArray.size=d.length:=by exact r.length.symm
 refine⟨"tuple",_,PyProof.Rows.slot_tuple_getitem.lookup,i.typeIs,?_⟩;refine HT.getItem_tuple_cut i l m n (by rw[c];exact p) ?_ (by rw[c];exact j);rw[c];refine⟨.ref s.heap.objs.size,_,I.laid (λb z q=>Ω _ q) (le_refl _) ?_,rfl,q _ (I.hok.fresh (le_refl _))⟩;exact⟨le_trans (zdP d lo hi) j,_,(r.drop (HT.sIx d.length 0 lo)).take (HT.sIx d.length d.length hi-HT.sIx d.length 0 lo),IsTup.new _ _⟩
def rLtT(K:Frag):R2:=λx y H Q=>∃a b c d,x=.ref a/\y=.ref b/\SqT K H a (c.map V.int)/\SqT K H b (d.map V.int)/\Q (.bl (HT.lexLt c d)) H
theorem zqf(f:X.A.units<cLine):OpR X (compareOp .Lt) (rLtT X.K):=by intro c s z H x y v u Q I g i h;obtain⟨a,b,j,k,rfl,rfl,l,m,q⟩:=h;cases g;cases i;obtain⟨n,o,p,_⟩:=I.tuple l;obtain⟨d,r,p2,_⟩:=I.tuple m;have t:=zbq o;have w:=zbq r;exact HT.lt_tupInts p p2 t w f ⟨.bl (HT.lexLt j k),H,I,rfl,q⟩
def zrF(K:Frag):R2:=λx y H Q=>∃a b d c,x=.ref a/\y=.ref b/\SqT K H a d/\SqT K H b c/\d≠[]/\d.length+c.length<=sizeLine/\
 (c=[]->Q (.ref a) H)/\(c≠[]->∀p,H p=Ψ->Q (.ref p) (upd H p (.tup (d++c))))
theorem Vals.nil_iff(r:Vals xs us):us=[]↔xs=[]:=by cases r with|nil=>simp|cons _ _=>simp
theorem znT:OpR X (binaryOp .Add) (zrF X.K):=by intro f s A H x y v u Q I j k h;obtain⟨a,b,B,C,rfl,rfl,l,m,n,g,o,p⟩:=h;cases j;cases k;obtain⟨r,d,t,_⟩:=I.tuple l;obtain⟨i,c,p2,_⟩:=I.tuple m;refine HT.cat_tup t p2 (λz=>n (d.nil_iff.mp z)) (λz=>⟨.ref a,H,I,rfl,o (c.nil_iff.mp z)⟩) (λz=>?_) (by rw[<-d.length,<-c.length];exact g);refine⟨.ref s.heap.objs.size,_,I.laid (λb E q=>Ω _ q) (le_refl _) ?_,rfl,p (λw=>z (c.nil_iff.mpr w)) _ (I.hok.fresh (le_refl _))⟩;exact⟨by rw[length_append];exact g,_,d.append c,IsTup.new _ _⟩
end
noncomputable def ixN(n:Nat)(i:Int):Option Nat:=if 0<=i then(if i<n then Φ i.toNat else Ψ) else if -(n:Int)<=i then Φ (i+n).toNat else Ψ
noncomputable def atI{a:Type}(xs:List a)(i:Int):Option a:=(ixN xs.length i).bind λj=>xs[j]?
theorem zjV(h:ixN n i=Φ j):seqIndex? i n=Φ j/\j<n/\-(n:Int)<=i/\i<n:=by unfold ixN at h;by_cases h0:0<=i;rw[if_pos h0]at h;by_cases h1:i<n;rw[if_pos h1]at h;have e:i.toNat=j:=Option.some.inj h;exact⟨by rw[seqIndex_of h0 h1,e],by lia,by lia,h1⟩;rw[if_neg h1]at h;exact nS h;rw[if_neg h0]at h;by_cases h1:-(n:Int)<=i;rw[if_pos h1]at h;have e:(i+n).toNat=j:=Option.some.inj h;exact⟨by rw[seqIndex_neg (by lia) h1,e],by lia,h1,by lia⟩;rw[if_neg h1]at h;exact nS h
theorem zgM(h:atI xs i=Φ v):∃j,seqIndex? i xs.length=Φ j/\xs[j]?=Φ v/\j<xs.length/\-(xs.length:Int)<=i/\i<xs.length:=by
 unfold atI at h;cases e:ixN xs.length i with
 |none=>rw[e]at h;exact nS h
 |some j=>rw[e]at h;obtain⟨a,b,c,d⟩:=zjV e;exact⟨j,a,h,b,c,d⟩
def zkJ(b:Expr):Prop:=∀o i,subscripted b Δ o i=operate [o,i] (getItem o i)
def IxR(X:Cx)(r:R2):Prop:=
 ∀(c a:Expr)(b:List (Addr×Obj))(s:Η)(d:St)(H:Hp)(x y:V)(v u:Λ)(Q:VK),Inv X b d H s->RelV x v->RelV y u->r x y H Q->
  subscripted a Δ v u=operate [v,u] (getItem v u)->wpAny (model X.prog X.w) X.A (subscriptTail c a v u) (EP X b d Q) X.xe s
def MtR(X:Cx)(id:String)(r:V->List V->Hp->VK->Prop):Prop:=
 ∀(a:List (Addr×Obj))(s:Η)(b:St)(H:Hp)(x:V)(c:List V)(v:Λ)(d:List Λ)(Q:VK),Inv X a b H s->RelV x v->Vals c d->r x c H Q->
  wpAny (model X.prog X.w) X.A (call (.builtin id) (v::d)) (EP X a b Q) X.xe s
section
variable{X:Cx}{a b:Expr}{ta tb:TE}{pos:Pos}
theorem IxR.or(h:IxR X r)(h':IxR X k):IxR X (λx y H Q=>r x y H Q\/k x y H Q):=by intro c d e s f H x y v u Q I g i q j;rcases q with q|q;exact h c d e s f H x y v u Q I g i q j;exact h' c d e s f H x y v u Q I g i q j
theorem zrL(d:IxR X r)(e:PE X a ta)(f:PE X b tb)(g:zkJ b):PE X (.Subscript a b pos) (tOp r ta tb):=by intro c s i H Q I h;exact Subscript_ (binT e f I h λv u j x y k l m n q=>d a b c j i k x y v u Q l m n q (g _ _))
def rIxL(K:Frag):R2:=λx y H Q=>∃p c i v,x=.ref p/\y=.int i/\SqL K H p c/\atI c i=Φ v/\Q v H
def rIxT(K:Frag):R2:=λx y H Q=>∃p c i v,x=.ref p/\y=.int i/\SqT K H p c/\atI c i=Φ v/\Q v H
def rIxS:R2:=λx y H Q=>∃z i c,x=.str z/\y=.int i/\z.length<=sizeLine/\atI z.cps.toList i=Φ c/\Q (.str ⟨#[c]⟩) H
theorem ix_list:IxR X (rIxL X.K):=by
 intro e f c s B H x y v u Q I C E h n;obtain⟨p,T,i,z,rfl,rfl,G,J,q⟩:=h;cases C;obtain⟨t,rfl⟩:=E;obtain⟨g,r,k,U⟩:=I.list G;obtain⟨j,d,L,Y,M,N⟩:=zgM J;obtain⟨w,o,l⟩:=r.get L;have O:=r.length;have hn:=zee;have fin:EP X c B Q w s:=⟨z,H,I,l,q⟩;by_cases A:0<=i;have m:i.toNat=j:=by rw[seqIndex_of A N]at d;exact Option.some.inj d
 exact item_listR k.isList A (by lia) (by rw[m];simpa using o) fin n;have m:(i+(g.toArray.size:Int)).toNat=j:=by rw[seqIndex_neg (by lia) M]at d;rw[size_toArray,<-O];exact Option.some.inj d
 exact subscriptTail_builtinR k.isList.typeIs slot_list_getitem.lookup
  (wpAny_getItem_list_neg k.isList (by lia) (by rw[size_toArray]<;>lia) (by lia) (by rw[m];simpa using o) ⟨rfl,fin⟩) n
theorem ix_tup:IxR X (rIxT X.K):=by
 intro d e c s k H x y v u Q I l m h n;obtain⟨p,L,i,z,rfl,rfl,o,A,q⟩:=h;cases l;obtain⟨t,rfl⟩:=m;obtain⟨B,r,g,M⟩:=I.tuple o;obtain⟨j,C,E,N,O,T⟩:=zgM A;obtain⟨w,G,f⟩:=r.get E;have J:=r.length;have U:=zee;have fin:EP X c k Q w s:=⟨z,H,I,f,q⟩;exact subscriptTail_builtinR g.typeIs slot_tuple_getitem.lookup
  (getItem_tuple g (by lia) (by lia) (by rw[size_toArray,<-J];exact C) (by simpa using G) ⟨rfl,fin⟩) n
theorem zqM:IxR X rIxS:=by
 intro d e f s C H x y v u Q I k l h m;obtain⟨z,i,c,rfl,rfl,E,n,q⟩:=h;obtain⟨t,rfl⟩:=k;obtain⟨G,rfl⟩:=l;obtain⟨j,g,o,J,p,r⟩:=zgM n;have w:z.cps.toList.length=z.length:=by simp[Str.length]
 rw[w]at g p r;have L:=zee;exact tail_any (typeIs_str s z t) slot_str_getitem.lookup (getItem_str (c:=c) (by
  have A:decide (i < -(2^63:Int))=Δ:=decide_eq_false (by lia);have B:decide (i≥2^63)=Δ:=decide_eq_false (by lia);rw[A,B,Bool.or_false]) (by rw[g];simpa using o) ⟨.str ⟨#[c]⟩,H,I.tok _,⟨_,rfl⟩,q⟩) m
def rIx(K:Frag):R2:=λx y H Q=>rIxL K x y H Q\/rIxT K x y H Q\/rIxS x y H Q
theorem zqN:IxR X (rIx X.K):=ix_list.or (ix_tup.or zqM)
theorem zh9(its:List Λ)(n j)(u):Obj.mapSeq (·.setIfInBounds j u) {cls:=.type "list",data:=.seq its.toArray n}={cls:=.type "list",data:=.seq (its.set j u).toArray n}:=by simp[Obj.mapSeq]
theorem Inv.lst{c:List (Addr×Obj)}{d:St}{H:Hp}{s:Η}{p:Addr}{xs:List V}(I:Inv X c d H s)(h:H p=Φ (.lst xs)) :
  ∃(its:List Λ) (n:Nat),Vals xs its/\s.heap.get? p=Φ {cls:=.type "list",data:=.seq its.toArray n}/\xs.length<=sizeLine:=by
 obtain⟨z,its,n,r,e⟩:=I.hok p _ h;exact⟨its,n,r,e,z⟩
theorem Inv.lstUpd{its c:List Λ}(I:Inv X d σ H s)(h:H p=Φ (.lst xs))(j:s.heap.get? p=Φ {cls:=.type "list",data:=.seq its.toArray n})(g:f {cls:=.type "list",data:=.seq its.toArray n}={cls:=.type "list",data:=.seq c.toArray i})(r:Vals ys c)(hz:ys.length<=sizeLine)(t):
  Inv X d σ (upd H p (.lst ys)) {s with heap:=s.heap.update p f,toks:=t}:=by
 have e:(s.heap.update p f).get? p=Φ {cls:=.type "list",data:=.seq c.toArray i}:=by rw[Heap.get?_update_self f j (by rw[g]<;>rfl),g]
 refine I.write (by rw[h];trivial) (.inl rfl) (λb u k q=>(Heap.get?_update_other _ _ (Ne.symm k)).trans q) ⟨_,e⟩ ?_;exact⟨hz,c,i,r,e⟩
def zrE:V->V->V->Hp->(Hp->Prop)->Prop:=λo i v H Q=>∃p c k j,o=.ref p/\i=.int k/\H p=Φ (.lst c)/\ixN c.length k=Φ j/\Q (upd H p (.lst (c.set j v)))
theorem zkT:PSet X zrE:=by
 intro c s A H o i v M N u Q I B C E h;obtain⟨p,G,k,j,rfl,rfl,m,J,q⟩:=h;cases B;obtain⟨t,rfl⟩:=C;obtain⟨d,n,r,f,L⟩:=I.lst m;obtain⟨e,O,w,x⟩:=zjV J;have g:=r.length;have T:=zee;have y:Inv X c A (upd H p (.lst (G.set j v))) {s with heap:=s.heap.update p (Obj.mapSeq (·.setIfInBounds j u))}:=I.lstUpd m f (zh9 d n j u) (r.set E j) (by rw[List.length_set];exact L) s.toks;by_cases z:0<=k;have l:k.toNat=j:=by rw[seqIndex_of z x]at e;exact Option.some.inj e
 exact PySem.W.ki_setAt f z (by lia) (by rw[size_toArray,<-g];exact x) (by rw[l];exact⟨_,y,q⟩);have l:(k+(d.toArray.size:Int)).toNat=j:=by rw[seqIndex_neg (by lia) w]at e;rw[size_toArray,<-g];exact Option.some.inj e
 exact PySem.W.ki_setBack f (by lia) (by rw[size_toArray,<-g];exact w) (by lia) (by rw[l];exact⟨_,y,q⟩)
theorem zfh(lo c)(n):(sliceBounds lo c Ψ n).1=((HT.sIx n 0 lo:Nat):Int)/\(sliceBounds lo c Ψ n).2.1=((HT.sIx n n c:Nat):Int)/\(sliceBounds lo c Ψ n).2.2=1:=by
 refine⟨?_,?_,rfl⟩;cases lo with
 |none=>simp[sliceBounds,HT.sIx]| some i=>
  simp only[sliceBounds,HT.sIx,Option.getD_none,show(1:Int)>0 by decide,if_true];by_cases h:i<0
  . simp only[h,if_true]<;>lia
  . simp only[h,if_false]<;>lia
 cases c with
 |none=>simp[sliceBounds,HT.sIx]| some i=>
  simp only[sliceBounds,HT.sIx,Option.getD_none,show(1:Int)>0 by decide,if_true];by_cases h:i<0
  . simp only[h,if_true]<;>lia
  . simp only[h,if_false]<;>lia
theorem zeD(its:List Λ)(lo c):slicePick its.toArray lo c Ψ=((its.drop (HT.sIx its.length 0 lo)).take (HT.sIx its.length its.length c-HT.sIx its.length 0 lo)).toArray:=by obtain⟨d,e,f⟩:=zfh lo c its.toArray.size;unfold slicePick;rw[d,e,f];simp only[sliceRange_one,pick_run,size_toArray]<;>rfl
def rSlL(K:Frag):V->Option Int->Option Int->Hp->VK->Prop:=λx lo d H Q=>∃a c,x=.ref a/\SqL K H a c/\∀p,H p=Ψ->Q (.ref p) (upd H p (.lst (cutV c lo d)))
theorem zm7:SlR X (rSlL X.K):=by intro f s t H x v u w lo e y Q I i j k l h;obtain⟨a,c,rfl,m,q⟩:=h;cases i;obtain⟨n,r,g,p⟩:=I.list m;have d:=r.length;refine⟨"list",_,slot_list_getitem.lookup,g.isList.typeIs,?_⟩;refine wpAny_getItem_list_slice g.isList j k l .none (by simp) ?_ (by rw[size_toArray]<;>lia);rw[zeD,<-d];refine⟨.ref s.heap.objs.size,_,I.laid (t':=s.toks) (o:=.lst (cutV c lo e)) (λb z q=>Ω _ q) (le_refl _) ?_,rfl,q _ (I.hok.fresh (le_refl _))⟩;exact⟨le_trans (zdP c lo e) p,_,0,(r.drop (HT.sIx c.length 0 lo)).take (HT.sIx c.length c.length e-HT.sIx c.length 0 lo),Ι _ rfl⟩
theorem zbQ:za0 X (.builtin "len") (λxs H Q=>∃p ys,xs=[.ref p]/\(SqL X.K H p ys\/SqT X.K H p ys)/\Q (.int ys.length) H):=by intro i s l H xs m Q I r h;obtain⟨p,ys,rfl,d,q⟩:=h;obtain⟨u,rfl,j⟩:=zkN r;cases j;have n:=zee;rcases d with d|d;obtain⟨e,f,g,k⟩:=I.list d;have c:=f.length;exact Calls.call_len_list g.isList (by simp only[size_toArray]<;>cutsat) ⟨.int ys.length,H,I.tok _,⟨s.toks+1,by rw[size_toArray,c]⟩,q⟩;obtain⟨e,f,g,k⟩:=I.tuple d;have c:=f.length;exact len_tuple g (by simp only[size_toArray]<;>cutsat) ⟨.int ys.length,H,I.tok _,⟨s.toks+1,by rw[size_toArray,c]⟩,q⟩
theorem zfW:za0 X (.type "list") (λxs H Q=>∃p ys,xs=[.ref p]/\(SqL X.K H p ys\/SqT X.K H p ys)/\∀l,H l=Ψ->Q (.ref l) (upd H l (.lst ys))):=by
 intro i s A H xs C Q I r h;obtain⟨p,ys,rfl,j,q⟩:=h;obtain⟨u,rfl,B⟩:=zkN r;cases B;have fin:∀(c:List Λ),Vals ys c->ys.length<=sizeLine->∀(d:Heap)(f:Nat),(∀b z,s.heap.get? b=Φ z->d.get? b=Φ z)->
   d.get? s.heap.objs.size=Φ {cls:=.type "list",dict:=Ψ,data:=.seq c.toArray f,slots:=#[]}->EP X i A Q (.ref s.heap.objs.size) {s with heap:=d}:=λc g k d f m e=>
  ⟨.ref s.heap.objs.size,_,I.laid (t':=s.toks) m (le_refl _) (show ObjOk X.prog X.w _ d _ (.lst ys) from⟨k,c,f,g,e⟩),rfl,q _ (I.hok.fresh (le_refl _))⟩
 rcases j with j|j;obtain⟨c,g,v,k⟩:=I.list j;have t:=g.length;obtain⟨o,w,x,n,y⟩:=v.isList;exact call_list_seq p (.inl rfl) w x y (λd f m e=>fin c g k d f m e) (by simp only[size_toArray]<;>lia);obtain⟨c,g,v,k⟩:=I.tuple j;have t:=g.length;obtain⟨o,w,x,n,y⟩:=v;exact call_list_seq p (.inr rfl) w x y (λd f m e=>fin c g k d f m e) (by simp only[size_toArray]<;>lia)
theorem ze4:za0 X (.type "tuple") (λxs H Q=>∃p ys,xs=[.ref p]/\((SqL X.K H p ys/\∀l,H l=Ψ->Q (.ref l) (upd H l (.tup ys)))\/(SqT X.K H p ys/\Q (.ref p) H))):=by intro c s k H xs y Q I r h;obtain⟨p,ys,rfl,h⟩:=h;obtain⟨u,rfl,v⟩:=zkN r;cases v;rcases h with⟨g,q⟩|⟨g,q⟩;obtain⟨d,i,j,m⟩:=I.list g;have n:=i.length;refine call_tuple_list j.isList (λf w=>?_) (by simp only[size_toArray]<;>lia);have t:Inv X c k H {s with heap:=f}:=I.kept (t':=s.toks) w;have x:Inv X c k (upd H f.objs.size (.tup ys)) {s with heap:=f.push {cls:=.type "tuple",data:=.seq d.toArray}}:=t.laid (t':=s.toks) (λb o e=>Ω _ e) (le_refl _) (show ObjOk X.prog X.w _ _ _ (.tup ys) from⟨m,d,i,IsTup.new _ _⟩);exact⟨.ref f.objs.size,_,x,rfl,q _ (t.hok.fresh (le_refl _))⟩;obtain⟨d,i,j,m⟩:=I.tuple g;exact call_tuple_same j ⟨.ref p,H,I,rfl,q⟩
def tyV(K:Frag)(T:String)(x:V)(H:Hp):Prop:=match x with
 |.str _=>T="str"|.int _=>T="int"
 |.ref p=>(T="list"/\∃d,SqL K H p d)\/(T="tuple"/\∃o,K.lookup p=Φ o/\o.cls=.type "tuple"/\o.dict=Ψ)\/
  (T="dict"/\((∃c,H p=Φ (.dK c))\/∃c,H p=Φ (.dT c)))\/(T="set"/\∃S n,H p=Φ (.set S n))
 |_=>False
theorem zoU(I:Inv X l σ H s)(r:RelV x v)(g:tyV X.K T x H):
  s.TypeIs v T/\∀a,v=.ref a->∃m,s.heap.get? a=Φ m/\m.dict=Ψ:=by
 cases x with
 |str z=>obtain⟨t,rfl⟩:=r;cases(show T="str" from g);exact⟨typeIs_str s z t,λ_ e=>by cases e⟩| int i=>obtain⟨t,rfl⟩:=r;cases(show T="int" from g);exact⟨typeIs_int s i t,λ_ e=>by cases e⟩| ref p=>
  cases r;rcases g with⟨rfl,A,u⟩|⟨rfl,o,d,w,h⟩|⟨rfl,d⟩|⟨rfl,S,n,d⟩;obtain⟨y,_,q,_⟩:=I.list u;refine⟨q.isList.typeIs,λa e=>?_⟩;cases e;obtain⟨o,n,e,c,h,_⟩:=q;exact⟨o,e,h⟩;refine⟨⟨o,I.kIn p o d,w⟩,λa e=>?_⟩;cases e;exact⟨o,I.kIn _ o d,h⟩;have z:∃o,s.heap.get? p=Φ o/\o.ExactDict:=by rcases d with⟨j,d⟩|⟨j,d⟩;obtain⟨_,_,_,_,o,_,_,e,f,_⟩:=I.hok p _ d;exact⟨o,e,f⟩;obtain⟨_,_,_,_,o,_,_,e,f,_⟩:=I.hok p _ d;exact⟨o,e,f⟩
  obtain⟨o,e,f⟩:=z;refine⟨⟨o,e,f.1⟩,λa k=>?_⟩;cases k;exact⟨o,e,f.2.1⟩;obtain⟨o,_,_,_,e,f,_⟩:=I.hok p _ d;refine⟨⟨o,e,f.1⟩,λa k=>?_⟩;cases k;exact⟨o,e,f.2.1⟩
 |_=>exact False.elim g
def tBM(K:Frag)(T:String)(r:V->List V->Hp->VK->Prop)(e:TE)(t:TA):TE:=λc H Q=>e c H λx d=>tyV K T x d/\t c d λf g=>r x f g Q
variable{o e:Expr}{es:List Expr}{to:TE}{t:TA}{name:Str}{apos cpos:Pos}{T id:String}{r:V->List V->Hp->VK->Prop}
theorem zp6(pa:PlainAttrs T)(slot:Slot T name id)(hty:typeOf (.builtin id)=pure (.type "method_descriptor"))(hm:MtR X id r)(ho:PE X o to)(ha:PA X (e::es) t)
  (hbase:attributeBase o name X.env (eval o X.env)=eval o X.env:=by rfl)
  (hfew:((backTo cpos (starEach (e::es) X.env)).all (λx=>!x.1)&&(backToKw cpos (keywordEach [] X.env)).all (λx=>x.1.isSome)
   && decide ((e::es).length+([]:List Keyword).length+(if([]:List Keyword).isEmpty then 0 else 1)<30))=Γ:=by rfl)
  (hline:(apos.endLine==cpos.line)=Γ:=by rfl) (hs:starEach (e::es) X.env=(Δ,eval e X.env)::starEach es X.env:=by rfl) (hplain:(backTo cpos (starEach es X.env)).any (·.1)=Δ:=by rfl) :
  PE X (.Call (.Attribute o name apos) (e::es) [] cpos) (tBM X.K T r to t):=by
 intro pins s σ H Q I h;refine wpAny_Call_method_late hbase hfew hline rfl (thn (ho pins s σ H _ I h) λv s1 z=>?_);obtain⟨x,H1,I1,r1,ty,q1⟩:=z;obtain⟨h1,h2⟩:=zoU I1 r1 ty;refine⟨T,id,pa,slot,hty,h1,h2,?_⟩;have hA:=ha cpos pins s1 σ H1 _ I1 q1;rw[hs]at hA⊢;refine Calls.callWith_builtin (by show(Δ||(backTo cpos (starEach es X.env)).any (·.1))=Δ;rw[hplain]<;>rfl) (Calls.evalArgs_plain ?_);exact thn hA λus s2 k=>(by obtain⟨vs,H2,I2,r2,q2⟩:=k;exact hm pins s2 σ H2 x vs v us Q I2 r1 r2 q2)
end
def MtM(X:Cx)(id:String)(r:V->List V->Hp->VK->Prop):Prop:=
 ∀(a:List (Addr×Obj))(s:Η)(b:St)(H:Hp)(x:V)(c:List V)(v:Λ)(d:List Λ)(Q:VK),Inv X a b H s->RelV x v->Vals c d->r x c H Q->
  wpAny (model X.prog X.w) X.A (call (.builtin id) (v::d)) (EP X a b Q) X.xe s
theorem Vals.one{x:V}{us:List Λ}(h:Vals [x] us):∃u,us=[u]/\RelV x u:=by cases h with|cons r t=>cases t;exact⟨_,rfl,r⟩
theorem Vals.eraseIdx:∀{xs:List V}{us:List Λ}(i:Nat),Vals xs us->Vals (xs.eraseIdx i) (us.eraseIdx i)
 |_,_,_,.nil=>.nil|_,_,0,.cons _ t=>t|_,_,i+1,.cons r t=>.cons r (Vals.eraseIdx i t)
theorem zfD{a:Type}:∀(l:List a)(i:Nat),(l.eraseIdx i).length<=l.length
 | [],_=>le_refl _|_::_,0=>le_succ _|_::r,i+1=>Nat.succ_le_succ (zfD r i)
section
variable{X:Cx}{pins:List (Addr×Obj)}{σ:St}{H:Hp}{s:Η}{l b:Addr}{xs ys zs:List V}
theorem Inv.lset{its j:List Λ}(I:Inv X pins σ H s)(a:H l=Φ (.lst xs))(e:s.heap.get? l=Φ {cls:=.type "list",data:=.seq its.toArray n})(c:f its.toArray=j.toArray)(d:Vals ys j)(hz:ys.length<=sizeLine):
  Inv X pins σ (upd H l (.lst ys)) {s with heap:=s.heap.update l (Obj.mapSeq f),toks:=t'}:=by
 have q:=PySem.IsL.update e f;rw[c]at q;refine I.write (by rw[a];exact trivial) (.inl rfl) (λi u g h=>(Heap.get?_update_other s.heap (Obj.mapSeq f) (Ne.symm g)).trans h) ⟨_,q⟩ ?_;exact⟨hz,j,_,d,q⟩
theorem Inv.lnew(I:Inv X pins σ H s)(a:Vals ys its)(hz:ys.length<=sizeLine):
  Inv X pins σ (upd H s.heap.objs.size (.lst ys)) {s with heap:=s.heap.push {cls:=.type "list",data:=.seq its.toArray},toks:=t'}:=
 I.laid (λ_ _ q=>Ω _ q) (le_refl _) ⟨hz,its,0,a,Ι _ rfl⟩
theorem Inv.fresh(I:Inv X pins σ H s):H s.heap.objs.size=Ψ:=I.hok.fresh (le_refl _)
theorem Inv.lstM(I:Inv X pins σ H s)(a:H l=Φ (.lst xs)):xs.length<=sizeLine/\∃(its:List Λ) (n:Nat),Vals xs its/\xs.length=its.length/\s.heap.get? l=Φ {cls:=.type "list",data:=.seq its.toArray n}:=by obtain⟨z,its,n,r,e⟩:=I.hok l _ a;exact⟨z,its,n,r,r.length,e⟩
theorem zly(h:n<=sizeLine):Builtin.List.listTooLong n=Δ:=by exact decide_eq_false (by lia)
end
section
variable{X:Cx}
def zny:V->List V->Hp->VK->Prop:=λx b H Q=>∃l a y,x=.ref l/\b=[y]/\H l=Φ (.lst a)/\a.length<sizeLine/\Q .non (upd H l (.lst (a++[y])))
theorem zfx:MtM X "list.append" zny:=by intro b s i H x j v k Q I d f h;obtain⟨l,m,y,rfl,rfl,c,o,q⟩:=h;cases d;obtain⟨u,rfl,g⟩:=f.one;obtain⟨z,a,n,r,p,e⟩:=I.lstM c;refine call_meets F.slot_list_append ⟨_,e,rfl⟩ F.entry_list_append (F.args_list_append_2 _ _) (PySem.list_append l a.toArray n u (by rw[size_toArray];lia)) ⟨e,?_⟩;refine⟨.non,_,I.lset c e (by simp) (r.append (.cons g .nil)) ?_,rfl,q⟩;rw[length_append,List.length_singleton];lia
def znx:V->List V->Hp->VK->Prop:=λx d H Q=>∃l b a c,x=.ref l/\d=[.ref b]/\H l=Φ (.lst a)/\H b=Φ (.lst c)/\a.length+c.length<=sizeLine/\Q .non (upd H l (.lst (a++c)))
theorem zjw:MtM X "list.extend" znx:=by
 intro g s A H x B v C Q I j k h;obtain⟨l,b,E,G,rfl,rfl,i,m,J,q⟩:=h;cases j;obtain⟨u,rfl,o⟩:=k.one;cases o;obtain⟨z,c,n,r,L,e⟩:=I.lstM i;obtain⟨M,a,p,t,w,y⟩:=I.lstM m;have f:c.toArray.size+a.toArray.size<=sizeLine:=by rw[size_toArray,size_toArray];lia
 have d:¬(!c.toArray.isEmpty&&Builtin.List.listTooLong (c.toArray.size+a.toArray.size))=Γ:=by rw[zly f,Bool.and_false];exact Ζ
 refine call_meets F.slot_list_extend ⟨_,e,rfl⟩ F.entry_list_extend (F.args_list_extend_2 _ _)
  (AutoSeq1.list_extend_list_list_0 l c.toArray n b a.toArray p d (by lia) (by lia)) ⟨e,y,?_⟩
 refine⟨.non,_,I.lset i e (by simp) (r.append t) ?_,rfl,q⟩;rw[length_append];lia
def zpK:V->List V->Hp->VK->Prop:=λx b H Q=>∃l a i k y,x=.ref l/\b=[.int i]/\H l=Φ (.lst a)/\-(2^63)<=i/\i<2^63/\seqIndex? i a.length=Φ k/\a[k]?=Φ y/\Q y (upd H l (.lst (a.eraseIdx k)))
theorem zlz:MtM X "list.pop" zpK:=by
 intro c s G H x J v L Q I f g h;obtain⟨l,j,i,k,y,rfl,rfl,d,m,o,p,A,q⟩:=h;cases f;obtain⟨u,rfl,B⟩:=g.one;obtain⟨t,rfl⟩:=B;obtain⟨z,a,n,r,C,e⟩:=I.lstM d;obtain⟨w,E,b⟩:=r.get A;refine call_meets F.slot_list_pop ⟨_,e,rfl⟩ F.entry_list_pop (F.args_list_pop_2 _ _)
  (MeetsSeq.list_pop_at l a.toArray n i t k w (fitsIndex_both m o) (by rw[size_toArray,<-C];exact p) (by rw[<-Χ];exact E) (by rw[size_toArray];lia)) ⟨e,?_⟩
 refine⟨y,_,I.lset d e ?_ (r.eraseIdx k) ?_,b,q⟩;rw[List.eraseIdxIfInBounds_toArray];have:=zfD j k;lia
def rCat:R2:=λx y H Q=>∃l b a c,x=.ref l/\y=.ref b/\H l=Φ (.lst a)/\H b=Φ (.lst c)/\a.length+c.length<=sizeLine/\∀p,H p=Ψ->Q (.ref p) (upd H p (.lst (a++c)))
theorem zqi:OpR X (binaryOp .Add) rCat:=by
 intro d s t H x y v u Q I f g h;obtain⟨l,b,w,A,rfl,rfl,i,j,B,q⟩:=h;cases f;cases g;obtain⟨z,c,n,r,C,e⟩:=I.lstM i;obtain⟨E,a,G,k,m,o⟩:=I.lstM j;refine PySem.P.add_list e o ?_ (by rw[size_toArray,size_toArray];lia);have p:c.toArray++a.toArray=(c++a).toArray:=by simp
 rw[p];exact⟨.ref _,_,I.lnew (r.append k) (by rw[length_append];lia),rfl,q _ I.fresh⟩
end
end L2
namespace Att
open PySem PySem.W PySem.Calls PyProof.Rows
theorem zdE:∀(ns:List Int)(vs:List Λ),WellAll P h vs (ns.map WData.int)->IntsAre vs ns:=by intro ns;induction ns with| nil=>intro vs w;cases w;exact .nil| cons n ns c=>intro vs w;cases w with| cons a b=>cases a;exact .cons _ _ (c _ b)
theorem ziY{l:OpenLaw}(o:l.most=Φ n)(b:l.row.toRowW.claim.pre args=Γ)(i:WellAll P h c args):
  ∃a vs ns,c=[Λ.ref a]/\args=[WData.list (ns.map WData.int)]/\h.get? a=Φ {cls:=.type "list",data:=.seq vs.toArray}/\IntsAre vs ns/\ns.length<=n:=by
 have j:=(pre_splitW b).1;have m:l.pre.holds [] {args:=args}=Γ:=(pre_splitW b).2;obtain⟨d,r,rfl,p,s⟩:=hasAllW_cons j;obtain rfl:=hasAllW_nil s;obtain⟨x,rfl,t⟩:=hasW_list p;obtain⟨ns,rfl⟩:=items_int t;have e:ns.length<=n:=by
  unfold OpenLaw.pre at m;have g:(WTm.not (.lt (.lit (.int (n:Int))) (.len (.arg 0)))).holds [] {args:=[.list (ns.map .int)]}=Γ:=by have g:=(holds_andW m).1;rw[o]at g;exact g
  have k:=condW_of g (w_not (w_lt w_lit (w_len_list (w_arg rfl))));rw[length_map]at k;refine Nat.le_of_not_lt λq=>?_;have y:(n:Int)<((ns.length:Nat):Int):=by omega
  first
   |(exact absurd k (by decide))
   |(simp at k;omega)
 cases i with| cons u v=>cases v;cases u with|list w f=>exact⟨_,_,ns,rfl,rfl,w,zdE ns _ f,e⟩
theorem zjg(l:OpenLaw)(args):l.row.toRowW.claim.post args (.bool Γ) args=Γ:=
 postW_of
  (show WShape.has [] (.bool Γ) .bool=Γ by first|rfl|decide|simp[WShape.arms])
  (show(WTm.eq .res (.lit (.bool Γ))).value [] {args:=args,res:=Φ (.bool Γ),after:=args}=Φ (.bool (Γ==Γ)) from w_eq_bool (w_res rfl) w_lit) rfl
theorem attach_call{l:OpenLaw}(C:l.most=Φ n)(s:d.params.defaults=[])(call:∀(w:ϐ)(s₀ b:Η)(m t:Str->Option Λ)(h:Addr)(o:Obj)(u p c:Λ)(a:Addr)(vs:List Λ)(ns:List Int),
   Ground q e [] E w s₀ m t b.heap->YP w b.heap->
   b.heap.get? h=Φ o->o.data=.func (docDef d.name d.params d.body d.scope u p c)->b.heap.CodeRec p d.name->m d.name=Φ (.ref h)->
   b.heap.get? a=Φ {cls:=.type "list",data:=.seq vs.toArray}->IntsAre vs ns->ns.length<=n->b.gens = #[]->
   codeAny (model l.prog w) callerA (.call (.ref h) ⟨[.ref a],[]⟩) (λr s'=>r=.ok (.ret (.bool Γ))/\OldK b.heap s'.heap/\s'.os=b.os/\AllBare s'.gens) b):
  WalkO q e E YP l.row.toRowW d [] (λf vs=>PySem.call f vs):=by
 intro w s₀ b m t G Y h o u p c H kV I J v z x L args A as i B M y N;obtain rfl:H=.none:=Dflts.none z s;obtain rfl:kV=.none:=Dflts.noKw z;obtain⟨a,vs,ns,rfl,rfl,j,g,k⟩:=ziY C i y;refine enter_call (ϩ (call w s₀ b m t h o u p c a vs ns G Y I (fd_plain J) v x j g k L) λr s' O=>?_);obtain⟨rfl,Q,T,U⟩:=O;exact⟨.inl ⟨.bool Γ,.bool Γ,[],rfl,λ_=>rfl,.bool Γ,zjg l _,λ_=>⟨Pairwise.nil,λ_ hm=>(by cases hm)⟩⟩,Q,T,U⟩
end Att
namespace L2
open PySem PySem.Spec PyProof.Rows
theorem zdc:∀{vs:List Λ}{ns:List Int},IntsAre vs ns->Vals (ns.map V.int) vs
 |_,_,.nil=>.nil|_,_,.cons n t h=>.cons ⟨t,rfl⟩ (zdc h)
def Only(H:Hp):Prop:=∀b,H b=Ψ\/∃o a,H b=Φ (.frz o (.lst a))
theorem zlF{K}(KX:K.In c.heap)(A:c.heap.Ns mainGlobals Y)(g:c.heap.Ns builtinsNs mb)(hbb:∀x:Str,x≠"__name__"->mb x=bootBuiltins x)(B:c.heap.NoLimit)(hg:c.gens = #[])(ha:c.heap.get? a=Φ {cls:=.type "list",data:=.seq vs.toArray})(hi:IntsAre vs ns)(hl:ns.length<=sizeLine)(hr:Room k callerA)(F:∀base:Heap,K.In base->base.Ns mainGlobals Y->FnOk P w K Y base CX k fa fd [x] sp)(p:∀(s:Η)(u:Λ),BindsTo s fd ⟨[u],[]⟩ [(x,u)])(hsp:∀H:Hp,Only H->SqL K H a (ns.map V.int)->sp [.ref a] H (λv _=>v=.bl Γ) λ_ _ _=>False)(hCX:∀H e s',CX [] H c (λ_ _ _=>False) e s'->False):
  codeAny (model P w) callerA (.call (.ref fa) ⟨[.ref a],[]⟩) (λr s'=>r=.ok (.ret (.bool Γ))/\OldK c.heap s'.heap/\s'.os=c.os/\AllBare s'.gens) c:=by
 have rv:=zdc hi;have C:=hi.length
 -- from an t heap in which E but G i may be I
 have l:∀H:Hp,Only H->SqL K H a (ns.map V.int)->HOk P w H c.heap->(∀b,H b≠Ψ->b=a)->(H a≠Ψ->K.lookup a=Ψ)->
   codeAny (model P w) callerA (.call (.ref fa) ⟨[.ref a],[]⟩) (λr s'=>r=.ok (.ret (.bool Γ))/\OldK c.heap s'.heap/\s'.os=c.os/\AllBare s'.gens) c:=by
  intro H hO hS J hA hK;have f:∀{b:Addr}{o:Obj},c.heap.get? b=Φ o->H b=Ψ->(hidT c.heap H).get? b=Φ o:=λe n=>zlL e n;have noA:∀{b:Addr}{o:Obj}{L:Array DictEntry}{M:Nat},c.heap.get? b=Φ o->o.data=.dict L M->H b=Ψ:=λ{b o L M} e d=>by cases q:H b with|none=>rfl| some u=>have e':b=a:=hA b (by rw[q];simp);subst e';rw[ha]at e;cases e;have d':Data.seq vs.toArray _=Data.dict L M:=d;cases d'
  have j:∀{b:Addr}{m:Str->Option Λ},c.heap.Ns b m->(hidT c.heap H).Ns b m:=λ{b m} ⟨o,L,M,e,d,r⟩=>⟨o,L,M,f e (noA e d),d,r⟩;have N:K.In (hidT c.heap H):=λb o e=>f (KX b o e) (by
   cases q:H b with|none=>rfl| some u=>have e':b=a:=hA b (by rw[q];simp);subst e';rw[hK (by rw[q];simp)]at e;exact nS e)
  have hM:Mod K Y (hidT c.heap H):=⟨N,j A,⟨mb,j g,hbb⟩,let ⟨mc,h1,h2⟩:=B;⟨mc,j h1,h2⟩⟩;have e0:Env0 P w K Y (hidT c.heap H) callerA [] c H:=⟨rfl,hM,λb o e=>znW e,le_of_eq (zj6 _ _),trivial,λb g=>absurd (show b∈([]:List Addr) from g) (by simp),J,.of_eq hg⟩;refine ϩ ((F _ N (j A)).run callerA [] c H ⟨[.ref a],[]⟩ [.ref a] [.ref a] _ _ hr e0 (p c (.ref a)) (.cons rfl .nil) (hsp H hO hS)) λr s' h=>?_;cases r with|error e=>exact(hCX H e s' h).elim| ok fl=>cases fl with|next=>exact False.elim h|brk=>exact False.elim h|cont=>exact False.elim h| ret u=>obtain⟨v,H',os,O,un,Q,r',q⟩:=h;have q':v=.bl Γ:=q;subst q';obtain rfl:u=Λ.bool Γ:=r';refine⟨rfl,OldK.of_keep λb o e=>?_,os,O⟩;cases q:H b with|none=>exact un.keep b o e q (by intro z;exact absurd (show b∈([]:List Addr) from z) (by simp)) (by simp)| some u=>rcases hO b with z|⟨ob,xs,z⟩;rw[q]at z;cases z;have z2:=un.frzs b ob _ z;obtain⟨e1,_⟩:=J b _ z;obtain⟨e2,_⟩:=Q b _ z2;rw[e]at e1;cases e1;exact e2
 cases hk:K.lookup a with
 |some o=>
  -- G i is one of G y own T
  have e:=KX a o hk;rw[ha]at e;cases e;refine l (λ_=>Ψ) (λ_=>.inl rfl) (.inr ⟨_,vs.toArray,_,hk,rfl,rfl,rfl,by rw[size_toArray,C];exact hl,by simpa using rv⟩) (λb u z=>by have U:(Ψ:Option HO)=Φ u:=z;exact nS U) (λb z=>absurd rfl z) λz=>absurd rfl z
 |none=>refine l (λb=>if b=a then Φ (.frz {cls:=.type "list",data:=.seq vs.toArray} (.lst (ns.map V.int))) else Ψ) (λb=>?_) (.inl (.inr ⟨{cls:=.type "list",data:=.seq vs.toArray},if_pos rfl⟩)) (λb u z=>?_) (λb z=>?_) λ_=>hk;by_cases g:b=a;exact .inr ⟨_,_,if_pos g⟩;exact .inl (if_neg g);by_cases g:b=a;have U:=(if_pos g).symm.trans z;cases U;subst g;exact⟨ha,by rw[length_map];exact hl,vs,_,rv,ha⟩;have U:=(if_neg g).symm.trans z;exact nS U;by_cases g:b=a;exact g;exact absurd (if_neg g) z
theorem walk_of{l:PySem.W.OpenLaw}{K:Params->Frag}{CX:ϐ->CXT}{sp:ϐ->Sp}(I:l.most=Φ n)(p:n<=sizeLine)(r:d.params.defaults=[])(J:Room k callerA)(L:∀(w:ϐ)(h:Heap),YP w h->(K w.params).In h)(F:∀(w:ϐ)(g:Str->Option Λ)(m:Addr)(h:Heap),(K w.params).In h->h.Ns mainGlobals g->g d.name=Φ (.ref m)->
   ∃t:FuncData,(∀(s:Η)(u:Λ),BindsTo s t ⟨[u],[]⟩ [(x,u)])/\
    ∀base:Heap,(K w.params).In base->base.Ns mainGlobals g->FnOk l.prog w (K w.params) g base (CX w) k m t [x] (sp w))(y:∀(w:ϐ)(H:Hp)(a:Addr)(ns:List Int),ns.length<=n->Only H->SqL (K w.params) H a (ns.map V.int)->sp w [.ref a] H (λv _=>v=.bl Γ) λ_ _ _=>False)(z:∀(w:ϐ)(H:Hp)(s:Η)(e:Λ)(s':Η),CX w [] H s (λ_ _ _=>False) e s'->False):
  PySem.W.WalkO q A XP YP l.row.toRowW d [] (λf vs=>PySem.call f vs):=by
 refine Att.attach_call I r λw C i g mb m o pm cd M a vs ns G Y ho hd N B j c b O=>?_;have E:=L w _ Y;obtain⟨t,Q,T⟩:=F w g m _ E G.T.g B;exact zlF E G.T.g G.T.b G.T.builtins G.T.nolimit O j c (le_trans b p) J T Q (λH U hS=>y w H a ns b U hS) λH e s'=>z w H i e s'
noncomputable def zaE(s:Stmt):Arguments:=match s with|.FunctionDef _ a _ _ _ _ _ _ _ _=>a|_=>{posonlyargs:=[],args:=[],vararg:=Ψ,kwonlyargs:=[],kw_defaults:=[],kwarg:=Ψ,defaults:=[]}
noncomputable def zar(s:Stmt):List Stmt:=match s with|.FunctionDef _ _ b _ _ _ _ _ _ _=>b|_=>[]
noncomputable def zad(s:Stmt):Scope:=match s with|.FunctionDef _ _ _ _ _ _ a _ _ _=>a|_=>{kind:=.function,names:=[],isGenerator:=Δ,isCoroutine:=Δ}
abbrev CX0:CXT:=λ_ _ _ _ _ _=>False
abbrev E0:XK:=λ_ _ _=>False
theorem zh2:zdW CX0 X E0:=λ_ _ _ _ _ _ _ h=>h.elim
structure Fun(K:Frag)(x qual:Str)(st:Stmt)(f:Addr)(fd:FuncData):Prop where
 ex:∃(oc:Λ) (od:Option Addr) (kV doc pm:Λ) (an:Option Addr) (cdv ct:Λ) (osl:Array (Option Λ)),
  fd=fnOf x qual (zaE st) (zar st) (zad st) .none kV doc pm an cdv ct/\K.lookup f=Φ ⟨oc,od,.func fd,osl⟩/\codeIn K cdv qual=Γ
 kp:keepIn K (.ref f)=Γ
def Same(H H':Hp):Prop:=∀b o,H b=Φ o->H' b=Φ o
noncomputable def za6(a:List (Str×Addr))(y:Str×NameKind)(b:List (Str×Addr)):List (Str×Addr):=if(y.2==NameKind.free)=Γ then(match a.lookup y.1 with|some c=>(y.1,c)::b|none=>b) else b
noncomputable def zgJ(b:List (Str×Addr))(names:List (Str×NameKind))(c:List (Str×Addr)):List (Str×Addr):=names.foldl (λa y=>za6 b y a) c
theorem zdJ{α β:Type}(f)(g:α->β->β):∀(l:List α)(b:β),(∀x∈l,∀b,f x b=pure (.yield (g x b)))->forIn l b f=(pure (l.foldl (λb x=>g x b) b):Sem β)
 | [],b,_=>rfl| x::l,b,h=>by rw[List.forIn_cons,h x Ρ,pure_bind];exact zdJ f g l _ λy hy=>h y (Ν _ hy)
theorem zbA(h:∀y∈scope.names,y.2=.free->∃c,env.cells.lookup y.1=Φ c):
  closureFor scope env=pure (zgJ env.cells scope.names []):=by
 unfold closureFor zgJ;dsimp only;rw[zdJ _ (λy a=>za6 env.cells y a)];simp;intro y hy a;obtain⟨n,k⟩:=y;by_cases hk:k=.free;obtain⟨c,hc⟩:=h _ hy hk;subst hk;simp at hc;simp[cellOf,hc,za6];have:(k==NameKind.free)=Δ:=by simpa using hk
 simp[this,za6]
theorem zfV:∀(names:List (Str×NameKind))(b:List (Str×Addr)),(∀x c,b.lookup x=Φ c->a.lookup x=Φ c)->
  ∀x c,(zgJ a names b).lookup x=Φ c->a.lookup x=Φ c
 | [],b,h=>h| y::r,b,h=>by
  refine zfV r (za6 a y b) ?_;intro x c e;unfold za6 at e;split at e;split at e;rename_i g d;rw[lookup_cons]at e;cases f:x==y.1 with| true=>rw[f]at e;have q:x=y.1:=beq_iff_eq.mp f;have i:g=c:=Option.some.inj e;rw[q,<-i];exact d|false=>rw[f]at e;exact h x c e
  exact h x c e;exact h x c e
theorem zdR:∀(names:List (Str×NameKind))(a:List (Str×Addr))(x:Str),(∀y∈names,y.2=.free->∃c,b.lookup y.1=Φ c)->
  ((∃c,a.lookup x=Φ c)\/(x,NameKind.free)∈names)->∃c,(zgJ b names a).lookup x=Φ c
 | [],a,x,_,h=>by rcases h with h|h;exact h;cases h
 |y::r,a,x,d,h=>by
  refine zdR r (za6 b y a) x (λz f=>d z (Ν _ f)) ?_;rcases h with⟨c,h⟩|h;left;unfold za6;split;split;rename_i g i;rw[lookup_cons];cases j:x==y.1 with|true=>exact⟨g,rfl⟩|false=>exact⟨c,h⟩
  exact⟨c,h⟩;exact⟨c,h⟩;rcases mem_cons.mp h with h|h;left;subst h;obtain⟨c,e⟩:=d _ Ρ rfl;refine⟨c,?_⟩;simp at e;simp[za6,e];exact .inr h
noncomputable def zb4(env:Env)(y:Str×NameKind):Str×NameKind:=if(y.2==.free&&env.scope.kind==.function&&env.kindOf y.1==Φ .cell)=Γ then(y.1,.cell) else y
theorem zbt(scope)(env):(relabel scope env).names=scope.names.map (zb4 env):=by unfold relabel;show scope.names.map _=_;refine Ϙ λy _=>?_;obtain⟨n,k⟩:=y;rfl
theorem zdl(env)(y):(zb4 env y).1=y.1:=by unfold zb4;split<;>rfl
theorem zdk(env)(y):(zb4 env y).2=y.2\/(y.2=.free/\(zb4 env y).2=.cell):=by unfold zb4;split;rename_i h;simp only[Α,beq_iff_eq]at h;exact .inr ⟨h.1.1,rfl⟩;exact .inl rfl
theorem zbG(env)(x):∀names:List (Str×NameKind),∀k,(names.map (zb4 env)).lookup x=Φ k->∃a,(x,a)∈names/\names.lookup x=Φ a/\(k=a\/(a=.free/\k=.cell))
 | [],k,h=>by simp at h| y::r,k,h=>by rw[ϋ]at h;have c:=zdl env y;have d:=zdk env y;obtain⟨n,f⟩:=y;generalize j:zb4 env (n,f)=z at *;obtain⟨g,i⟩:=z;simp only at c d;subst c;rw[lookup_cons]at h;rw[lookup_cons];cases b:x==g with| true=>rw[b]at h;have q:x=g:=beq_iff_eq.mp b;subst q;have e:i=k:=Option.some.inj h;subst e;exact⟨f,Ρ,rfl,d⟩| false=>rw[b]at h;obtain⟨a,m,l,q⟩:=zbG env x r k h;exact⟨a,Ν _ m,l,q⟩
theorem zbu(env)(x):∀names:List (Str×NameKind),names.lookup x=Φ .free->(names.map (zb4 env)).lookup x=Φ .free\/(names.map (zb4 env)).lookup x=Φ .cell
 | [],h=>by simp at h| y::r,h=>by
  rw[ϋ];have b:=zdl env y;have a:=zdk env y;obtain⟨n,d⟩:=y;generalize g:zb4 env (n,d)=z at *;obtain⟨f,i⟩:=z;simp only at b a;subst b;rw[lookup_cons]at h;rw[lookup_cons];cases c:x==f with
  |true=>rw[c]at h;have e:=Option.some.inj h;subst e;rcases a with a|⟨_,a⟩;left;rw[a];right;rw[a]
  |false=>rw[c]at h;exact zbu env x r h
structure CompOk(sc scope:Scope)(N0:List Str)(js:List Nat):Prop where
 kind:scope.kind=.function
 nocell:∀y∈scope.names,y.2≠.cell
 locs:∀y∈scope.names,y.2=.local->scope.names.lookup y.1=Φ .local
 frees:∀y∈scope.names,y.2=.free->sc.names.lookup y.1=Φ .cell\/sc.names.lookup y.1=Φ .free
 caps:∀j∈js,scope.names.lookup (N0.getD j "")=Φ .free/\j<N0.length
noncomputable abbrev zay(X:Cx)(a:List Str)(scope:Scope)(cl:List (Str×Addr))(C:Addr)(b:List Addr)(s:Η)(H:Hp)(pn:List (Addr×Obj)):Cx:={X with N:=a,s₀:=s,H₀:=H,env:=compEnvC scope cl C X.env,outer:=X.stack,stack:=X.stack,ex:=b,fn:=λ_=>Δ,pn:=pn,xe:=λ_ _=>False}
noncomputable def csl(a:Nat)(b:List Nat)(σ:St):St:=List.replicate a Ψ++b.map λj=>(σ[j]?).join
noncomputable abbrev capN(a:List Str)(tgs:List Str)(b:List Nat):List Str:=tgs++b.map λj=>a.getD j ""
def PTs(X:Cx)(ifs:List Expr)(t:TT):Prop:=
 ∀(pins:List (Addr×Obj))(s:Η)(σ:St)(H:Hp)(Q:Bool->Hp->Prop),Inv X pins σ H s->t σ H Q->
  wpAny (model X.prog X.w) X.A (forIn ifs Γ λc r=>if r=Γ then do let ok <-isTrue c X.env (eval c X.env);pure (ForInStep.yield ok) else pure (ForInStep.yield r)) (TP X pins σ Q) X.xe s
def tYes:TT:=λ_ H Q=>Q Γ H
theorem znE:PTs X [] tYes:=λa s b H Q I h=>wpAny_tests_nil ⟨H,I,h⟩
theorem zjf(h:PT X c t):PTs X [c] t:=λa s b H Q I q=>wpAny_tests_one (h a s b H Q I q)
def zmZ(o:Nat)(q:List Nat)(r:TI)(g:TG)(s:TT)(t:TE):TE:=λh H Q=>r h H λJ j=>∀p,j p=Ψ->
 ∃W:Nat->Nat->St->Hp->Prop,(∃m,W 0 m (csl o q h) (upd j p (.lst [])))/\∀i m d e,W i m d e->
  (J.stop i e/\Q (.ref p) e)\/(J.go i e/\∃N:St->Hp->Prop,(∀a f,N a f->∃k,k<m/\W (i+1) k a f)/\
   ∀x f,J.yld i e x f->g x d f λa u=>s a u λb l=>if b=Γ then t a l λv n=>∃c,n p=Φ (.lst c)/\c.length<sizeLine/\N a (upd n p (.lst (c++[v]))) else N a l)
section
variable{prog:Τ}{w:ϐ}{A:ϑ}{R:Result->Η->Prop}{s:Η}
theorem zio(J:Nat->Η->Prop)(turn:∀n s,J n s->wpAny (model prog w) A (pyNext it) (λr s₁=>(r=Ψ/\R (.ok .next) s₁)\/∃v,r=Φ v/\
   wpAny (model prog w) A (letOwnedTupleGo tg it v) (λ_ s₀=>wpAny (model prog w) A (assign tg env v) (λ_ s₂=>
    wpAny (model prog w) A (forIn ifs Γ λc r=>if r=Γ then do let ok <-isTrue c env (eval c env);pure (ForInStep.yield ok) else pure (ForInStep.yield r)) (λok s₃=>
     if ok=Γ then wpAny (model prog w) A (eval elt env) (λx s₄=>wpAny (model prog w) A (call (.builtin "list.append") [acc,x]) (λ_ s₅=>∃m,m<n/\J m s₅) (λ_ _=>False) s₄) (λ_ _=>False) s₃
     else ∃m,m<n/\J m s₃) (λ_ _=>False) s₂) (λ_ _=>False) s₀) (λ_ _=>False) s₁) (λ_ _=>False) s)(n)(h:J n s):codeAny (model prog w) A (.compLoop (.ListComp elt [⟨tg,iter,ifs,0⟩] scope pos) 0 it acc env) R s:=by
 refine codeAny_loop rfl J (λn s hI=>?_) n h;refine wpAny_noted ?_;refine Θ (wpAny_standAt (Θ (Ϥ (turn n s hI) (λr s₁ h₁=>?_) λ_ _ f=>f.elim)));rcases h₁ with⟨rfl,h₁⟩|⟨v,rfl,h₁⟩;exact Ξ h₁;refine Θ (Ϥ h₁ (λ_ s₀ h₀=>?_) λ_ _ f=>f.elim);refine Θ (Ϥ h₀ (λ_ s₂ h₂=>?_) λ_ _ f=>f.elim);refine Θ (Ϥ h₂ (λok s₃ h₃=>?_) λ_ _ f=>f.elim);cases ok with|false=>exact Ξ ⟨rfl,h₃⟩| true=>exact Θ (Θ (Ϥ h₃ (λx s₄ h₄=>(Θ (Ϥ h₄ (λ_ s₅ h₅=>Ξ (Ξ ⟨rfl,h₅⟩)) λ_ _ f=>f.elim))) λ_ _ f=>f.elim))
end
section
variable{X:Cx}{sc scope:Scope}{tgs:List Str}{js:List Nat}{elt tg iter:Expr}{ifs:List Expr}{pos:Pos}{wi:TI}{g:TG}{tt:TT}{te:TE}
theorem zeg(hc:X.calm=Γ)(hsc:X.env.scope=sc)(ok:CompOk sc scope X.N js)(hg:∀cl C A s H pn,PG (zay X (capN X.N tgs js) scope cl C A s H pn) tg g)(ht:∀cl C A s H pn,PTs (zay X (capN X.N tgs js) scope cl C A s H pn) ifs tt)(he:∀cl C A s H pn,PE (zay X (capN X.N tgs js) scope cl C A s H pn) elt te){RR:Λ->Addr->Result->Η->Prop}{Q:VK}(I2:Inv X a σ H2 s2)(T:Turn X.prog X.w X.K tg J A it tn)(st2:tn 0 s2.heap)(f2:∀b∈A,FpOk X a H2 b)(rd:∀p,H2 p=Ψ->∃W:Nat->Nat->St->Hp->Prop,(∃m,W 0 m (csl tgs.length js σ) (upd H2 p (.lst [])))/\∀i m G H',W i m G H'->
   (J.stop i H'/\Q (.ref p) H')\/(J.go i H'/\∃N:St->Hp->Prop,(∀O H2,N O H2->∃m',m'<m/\W (i+1) m' O H2)/\
    ∀x H2,J.yld i H' x H2->g x G H2 λO U=>tt O U λb H4=>if b=Γ then te O H4 λv H5=>∃I,H5 p=Φ (.lst I)/\I.length<sizeLine/\N O (upd H5 p (.lst (I++[v]))) else N O H4))(fin:∀p C H' s',Inv X a σ H' s'->(∃m,s'.heap.Ns C m)->s2.heap.objs.size<C->H' C=Ψ->Q (.ref p) H'->RR (.ref p) C (.ok .next) s'):
  wpAny (model X.prog X.w) X.A (newList []) (λI s₃=>wpAny (model X.prog X.w) X.A (newFunctionEnv scope X.env.globals (zgJ X.env.cells scope.names []) [] X.env.qual Ψ .none (Φ X.env)) (λcenv s₄=>codeAny (model X.prog X.w) X.A (.compStart (.ListComp elt [⟨tg,iter,ifs,0⟩] scope pos) 0 (.ref it) I {cenv with scope:=relabel scope X.env}) (RR I cenv.locals) s₄) E s₃) E s2:=by
 subst hsc;refine ό (wpAny_newFunctionEnv ok.nocell (by intro y hy;simp at hy) (λB hns₁ hsb₁=>?_) ok.kind);have w:Inv X a σ (upd H2 s2.heap.objs.size (.lst [])) {s2 with heap:=s2.heap.push {cls:=.type "list",data:=.seq ([]:List Λ).toArray}}:=I2.lnew (its:=[]) (ys:=[]) (t':=s2.toks) .nil (zero_le _);obtain⟨W,⟨m0,w0⟩,turn⟩:=rd _ I2.fresh;generalize hp:s2.heap.objs.size=p at *;generalize hs3:({s2 with heap:=s2.heap.push {cls:=.type "list",data:=.seq ([]:List Λ).toArray}}:Η)=l at w;have e3:l.heap=s2.heap.push {cls:=.type "list",data:=.seq ([]:List Λ).toArray}:=by rw[<-hs3]
 have sz3:l.heap.objs.size=p+1:=by rw[e3,ϒ,hp]
 generalize hH3:upd H2 p (.lst [])=U at *
 -- the block's frame
 have hns:B.Ns l.heap.objs.size (λx=>([]:List (Str×Λ)).reverse.lookup x):=by rw[e3];exact hns₁
 have hsb:Heap.SameBut l.heap.objs.size (l.heap.push {cls:=.type "dict",data:=.dict #[]}) B:=by rw[e3];exact hsb₁
 have Y:∀b o,l.heap.get? b=Φ o->B.get? b=Φ o:=λb o e=>(hsb.2 b (ne_of_lt (Κ e))).trans (Ω _ e);have frees:∀y∈scope.names,y.2=.free->∃c,X.env.cells.lookup y.1=Φ c:=λy hy hk=>I2.ok.has y.1 (ok.frees y hy hk);have t:∀x c,(zgJ X.env.cells scope.names []).lookup x=Φ c->X.env.cells.lookup x=Φ c:=zfV scope.names [] (λx c e=>by simp at e);generalize hcl:zgJ X.env.cells scope.names []=cl at *;have okX:(zay X (capN X.N tgs js) scope cl l.heap.objs.size A l U (X.pn++a)).Ok:=
  {mod:=w.ok.mod,kind:=ok.kind,glob:=w.ok.glob,blt:=w.ok.blt,above:=le_refl _,
   inj:=λx y c e1 M=>w.ok.inj x y c (t x c e1) (t y c M),
   has:=λx hk=>by
    have hk':(scope.names.map (zb4 X.env)).lookup x=Φ .cell\/(scope.names.map (zb4 X.env)).lookup x=Φ .free:=by rw[<-zbt];exact hk
    rw[<-hcl];refine zdR scope.names [] x frees (.inr ?_);rcases hk' with q|q;obtain⟨k0,m,_,e⟩:=zbG X.env x _ _ q;rcases e with e|⟨e,_⟩;subst e;exact absurd rfl (ok.nocell _ m);subst e;exact m;obtain⟨k0,m,_,e⟩:=zbG X.env x _ _ q;rcases e with e|⟨e,z⟩;subst e;exact m;exact absurd z (λh=>(by cases h)),
   cab:=λx c e=>absurd e Ζ,hd:=w.ok.hd,frames:=w.ok.frames,stk:=.inl rfl,
   exf:=λb f=>⟨ne_of_lt (by
    obtain⟨o,ho,_⟩:=T.obj 0 _ st2 b f;show b<l.heap.objs.size;rw[sz3,<-hp];exact ϝ (Κ ho)),λx c e=>(f2 b f).2.2.2.2.1 x c (t x c e)⟩,
   bs:=w.bs,bsz:=le_trans w.ok.bsz w.sz,
   noex:=λb o e f=>by rcases(f2 b f).2.2.2.1 with z|z;exact w.ok.noex b o e z;exact absurd (lt_of_lt_of_le (Κ e) (le_trans w.ok.bsz z)) (lt_irrefl _),
   exfs:=λb f hx=>by rcases mem_cons.mp (w.stkSub b hx) with z|z;exact(f2 b f).2.1 z;exact(f2 b f).2.2.1 z,
   funs:=w.stack,frf:=w.stkFree}
 have I4:Inv (zay X (capN X.N tgs js) scope cl l.heap.objs.size A l U (X.pn++a)) [] (csl tgs.length js σ) U {l with heap:=B}:=
  {ok:=okX,os:=rfl,bare:=w.bare,base:=Un.kept Y,
   loc:=⟨_,hns,λi x v e1 M e3=>by
    have e1:(tgs++js.map λj=>X.N.getD j "")[i]?=Φ x:=e1;have M:(List.replicate tgs.length Ψ++js.map λj=>(σ[j]?).join)[i]?=Φ (Φ v):=M;by_cases hi:i<tgs.length;rw[getElem?_append_left (by rw[length_replicate];exact hi),List.getElem?_replicate,if_pos hi]at M;cases M;rw[getElem?_append_right (by lia),getElem?_map]at e1;rw[getElem?_append_right (by rw[length_replicate];lia),length_replicate,getElem?_map]at M;cases hj:js[i-tgs.length]? with
    |none=>rw[hj]at e1;exact nS e1
    |some j=>
     rw[hj]at e1 M;have e1:X.N.getD j ""=x:=Option.some.inj e1;have M:(σ[j]?).join=Φ v:=Option.some.inj M;have hjm:j∈js:=mem_of_getElem? hj;obtain⟨hfr,hjl⟩:=ok.caps j hjm;rw[e1]at hfr;have hNj:X.N[j]?=Φ x:=by rw[Ε hjl];rw[ϊ,Ε hjl]at e1;exact congrArg Φ e1
     have hσ:σ[j]?=Φ (Φ v):=by
      cases q:σ[j]? with
      |none=>rw[q]at M;exact nS M
      |some o=>rw[q]at M;have M:o=Φ v:=M;rw[M]
     have hmem:(x,NameKind.free)∈scope.names:=by obtain⟨l1,l2,h3,_⟩:=List.lookup_eq_some_iff.mp hfr;rw[h3];simp
     have hkX:=ok.frees _ hmem rfl;have hvis:Vis X.env.scope x:=hkX.elim (λz=>.inr (.inl z)) λz=>.inr (.inr z);obtain⟨m,hn,hl⟩:=w.loc;obtain⟨u,r,lk⟩:=hl j x v hNj hσ hvis;refine⟨u,r,.inr ⟨?_,?_⟩⟩;have q:=zbu X.env x scope.names hfr;rw[<-zbt]at q;exact q.symm;rcases lk with⟨k,_⟩|⟨_,c,ec,z⟩
     . exfalso;have k:X.env.scope.names.lookup x=Φ .local:=k;rcases hkX with q|q<;>(rw[k]at q;cases q)
     obtain⟨c',hc'⟩:∃c',cl.lookup x=Φ c':=by rw[<-hcl];exact zdR scope.names [] x frees (.inr hmem)
     have q:=t x c' hc';rw[ec]at q;cases q;obtain⟨o,ho,hd⟩:=z;exact⟨c,hc',o,Y _ _ ho,hd⟩⟩,
   cell:=λx c e=>by obtain⟨v,o,ho,hd⟩:=w.cell x c (t x c e);exact⟨v,o,Y _ _ ho,hd⟩,
   free:=w.fresh,
   freeC:=λx c e=>w.freeC x c (t x c e),
   pin:=λq hq=>by
    have hq:q∈X.pn++a:=by simpa using hq
    obtain⟨e,n,ne,nf,d⟩:=w.pin q hq;refine⟨Y _ _ e,n,ne_of_lt (Κ e),λz=>?_,d⟩;rcases mem_cons.mp (w.stkSub _ z) with z|z;exact ne z;exact nf z,
   hok:=w.hok.kept Y,
   len:=by show(List.replicate tgs.length Ψ++js.map λj=>(σ[j]?).join).length=(tgs++js.map λj=>X.N.getD j "").length;simp}
 have stat:∀{H':Hp},(∀b∈A,H' b=Ψ)->∀b∈A,FpOk (zay X (capN X.N tgs js) scope cl l.heap.objs.size A l U (X.pn++a)) [] H' b:=λhn b f=>
  ⟨hn b f,(okX.exf b f).1,okX.exfs b f,.inl f,(okX.exf b f).2,λq hq=>by
   have hq:q∈X.pn++a:=by simpa using hq
   exact(f2 b f).2.2.2.2.2 q hq⟩
 have fr3:∀b∈A,U b=Ψ:=λb f=>by obtain⟨o,ho,_⟩:=T.obj 0 _ st2 b f;rw[<-hH3,zak (ne_of_lt (hp▸Κ ho))];exact(f2 b f).1
 have st4:tn 0 B:=T.keep 0 _ _ st2 λb f o e=>Y b o (by rw[e3];exact Ω _ e);have loop:codeAny (model X.prog X.w) X.A (.compLoop (.ListComp elt [⟨tg,iter,ifs,0⟩] scope pos) 0 (.ref it) (.ref p) (compEnvC scope cl l.heap.objs.size X.env)) (RR (.ref p) l.heap.objs.size) {l with heap:=B}:=by
  refine zio (λn s'=>∃i G H',Inv (zay X (capN X.N tgs js) scope cl l.heap.objs.size A l U (X.pn++a)) [] G H' s'/\tn i s'.heap/\(∀b∈A,H' b=Ψ)/\W i n G H') ?_ m0 ⟨0,_,U,I4,st4,fr3,w0⟩;rintro n s4 ⟨i,σ4,H4,J4,st4,fr4,w4⟩;rcases turn i n σ4 H4 w4 with⟨stop,qn⟩|⟨go,N,hN,step⟩;refine thn (T.done (zay X (capN X.N tgs js) scope cl l.heap.objs.size A l U (X.pn++a)) rfl rfl rfl hc i [] s4 σ4 H4 _ J4 (stat fr4) st4 stop) λr s5 ⟨hr,J5⟩=>.inl ⟨hr,?_⟩;have hX:Inv X a σ H4 s5:=w.call' J5.os J5.base J5.hok J5.bare λb f=>⟨(f2 b f).2.2.2.1,(f2 b f).2.1,(f2 b f).2.2.2.2.1,(f2 b f).2.2.2.2.2⟩;obtain⟨m,hm,_⟩:=J5.loc;exact fin p _ H4 s5 hX ⟨m,hm⟩ (by rw[sz3];exact ϧ _) J5.free qn
  refine thn (T.item (zay X (capN X.N tgs js) scope cl l.heap.objs.size A l U (X.pn++a)) rfl rfl rfl hc i [] s4 σ4 H4 _ J4 (stat fr4) st4 go) λr s5 ⟨u,hr,h5⟩=>.inr ⟨u,hr,?_⟩;refine thn h5 λ_ s6 q'=>?_;obtain⟨x,H6,J6,r6,y6,st6,fr6⟩:=q';have J6':=J6.pinned (stat fr6) (T.obj _ _ st6);refine thn (hg _ _ _ _ _ _ _ s6 σ4 H6 x u _ J6' r6 (step x H6 y6)) λ_ s7 q'=>?_;obtain⟨L,H7,J7,q7⟩:=q';refine thn (ht _ _ _ _ _ _ _ s7 L H7 _ J7 q7) λok8 s8 q'=>?_;obtain⟨H8,J8,q8⟩:=q';have again:∀{s9:Η}{H9:Hp},Inv (zay X (capN X.N tgs js) scope cl l.heap.objs.size A l U (X.pn++a)) ([]++zft A s6.heap) L H9 s9->N L H9->
    ∃m,m<n/\∃i G H',Inv (zay X (capN X.N tgs js) scope cl l.heap.objs.size A l U (X.pn++a)) [] G H' s9/\tn i s9.heap/\(∀b∈A,H' b=Ψ)/\W i m G H':=λ{s9 H9} J9 n9=>by
   obtain⟨m',hm,w9⟩:=hN L H9 n9;refine⟨m',hm,i+1,L,H9,J9.unpinned,T.keep _ _ _ st6 λb f o e=>(J9.pin (b,o) (mem_append_right _ (mem_append_right _ (zbZ f e)))).1,λb f=>?_,w9⟩;obtain⟨o,e,d⟩:=T.obj _ _ st6 b f;exact(J9.pin (b,o) (mem_append_right _ (mem_append_right _ (zbZ f e)))).2.1
  cases ok8 with|false=>exact again J8 q8| true=>refine thn (he _ _ _ _ _ _ _ s8 L H8 _ J8 q8) λy s9 q'=>?_;obtain⟨v,H9,J9,r9,I,ha,hl,q9⟩:=q';refine thn (zfx _ s9 L H9 (.ref p) [v] (.ref p) [y] (λ_ H=>N L H) J9 rfl (.cons r9 .nil) ⟨p,I,v,rfl,rfl,ha,hl,q9⟩) λ_ s10 q'=>?_;obtain⟨_,H10,J10,_,q10⟩:=q';exact again J10 q10
 exact codeAny_compStart_list loop (T.self _ 0 _ _ _ st4 loop)
theorem zlr(sc)(tgs)(js)(hc:X.calm=Γ)(hsc:X.env.scope=sc)(ok:CompOk sc scope X.N js)(hi:PI X tg iter wi)(hg:∀cl C fp s H pn,PG (zay X (capN X.N tgs js) scope cl C fp s H pn) tg g)(ht:∀cl C fp s H pn,PTs (zay X (capN X.N tgs js) scope cl C fp s H pn) ifs tt)(he:∀cl C fp s H pn,PE (zay X (capN X.N tgs js) scope cl C fp s H pn) elt te)(hs:∀x,foldedSetIterable iter X.env x=pure x:=by intro _;rfl):
  PE X (.ListComp elt [⟨tg,iter,ifs,0⟩] scope pos) (zmZ tgs.length js wi g tt te):=by
 intro pins s σ H Q I h;have frees:∀y∈scope.names,y.2=.free->∃c,X.env.cells.lookup y.1=Φ c:=λy hy hk=>I.ok.has y.1 (by
  have q:=ok.frees y hy hk;rw[<-hsc]at q;exact q)
 refine wpAny_comprehension_free rfl hs (zbA frees) ok.kind ok.locs (thn (hi pins s σ H _ I h) λv s1 h1=>thn h1 λitv s2 h2=>?_);obtain⟨it,fp,tn,J,H2,e,I2,T,st2,f2,rd⟩:=h2;subst e;refine zeg hc hsc ok hg ht he I2 T st2 f2 rd λp C H' s' I' hm hC hn q=>?_;obtain⟨m,hm⟩:=hm;refine⟨m,hm,λh' hs'=>⟨.ref p,H',?_,rfl,q⟩⟩;exact I'.turned (λb o hb e=>(hs'.2 b hb).trans e) hn (ne_of_gt (lt_trans I2.lt hC)) (.inr (le_trans I2.sz (le_of_lt hC))) (λx c e=>by obtain⟨v,o,ho,_⟩:=I2.cell x c e;exact ne_of_lt (lt_trans (Κ ho) hC)) λq hq=>ne_of_lt (lt_trans (Κ (I2.pin q hq).1) hC)
theorem znH(sc)(tgs)(js)(hN:X.N.Nodup)(hi':X.N[i]?=Φ y)(hy:Loc X.env.scope y)(hc:X.calm=Γ)(hsc:X.env.scope=sc)(ok:CompOk sc scope X.N js)(hi:PI X tg iter wi)(hg:∀cl C fp s H pn,PG (zay X (capN X.N tgs js) scope cl C fp s H pn) tg g)(ht:∀cl C fp s H pn,PTs (zay X (capN X.N tgs js) scope cl C fp s H pn) ifs tt)(he:∀cl C fp s H pn,PE (zay X (capN X.N tgs js) scope cl C fp s H pn) elt te)(hsw:swapsWith (.ListComp elt [⟨tg,iter,ifs,0⟩] scope pos) (Φ (.Name y py)) spos.line X.env=pure Γ:=by rfl)(hs:∀x,foldedSetIterable iter X.env x=pure x:=by intro _;rfl)(hf:X.fn y=Γ\/X.env.scope.names.lookup y=Φ .local:=by first|exact .inl rfl|exact .inr rfl|assumption):
  PS X (.Assign [.Name y py] (.ListComp elt [⟨tg,iter,ifs,0⟩] scope pos) spos) (tAsg (zmZ tgs.length js wi g tt te) (zke i)):=by
 intro pins s σ H D I h;have frees:∀y∈scope.names,y.2=.free->∃c,X.env.cells.lookup y.1=Φ c:=λy hy hk=>I.ok.has y.1 (by
  have q:=ok.frees y hy hk;rw[<-hsc]at q;exact q)
 rw[exec_Assign_Name_used _ _ _ _ hsw];refine Θ (wpAny_standAt (Θ ?_));refine Θ (Ϥ (wpAny_comprehension_free rfl hs (zbA frees) ok.kind ok.locs
  (thn (hi pins s σ H _ I h) λv s1 h1=>thn h1 λitv s2 h2=>?_)) (λ_ s' hq=>Ξ (Ξ hq)) λ_ _ e=>e)
 obtain⟨it,fp,tn,J,H2,e,I2,T,st2,f2,rd⟩:=h2;subst e;refine zeg hc hsc ok hg ht he I2 T st2 f2 rd (Q:=λx H1=>zke i x σ H1 D.nx) λp C H' s' I' hm hC hn q=>?_;obtain⟨m,hm⟩:=hm;have hL:=ne_of_gt (lt_trans I2.lt hC);have hCc:∀x c,X.env.cells.lookup x=Φ c->c≠C:=λx c e=>by obtain⟨v,o,ho,_⟩:=I2.cell x c e;exact ne_of_lt (lt_trans (Κ ho) hC)
 refine wpAny_assign_Name (zfd I' hN hi' hy (v:=.ref p) rfl (λs'' I'' hch=>?_) hf);obtain⟨a,hsb,ha⟩:=hch;have hCa:C≠a:=by rcases ha with z|z;rw[z];exact hL;exact λe=>hCc y a z e.symm
 exact⟨m,hm.sameBut hsb hCa,λh' hs'=>⟨σ.set i (Φ (.ref p)),H',(I''.turned (t':=s''.toks) (it:=C) (λb o hb e=>(hs'.2 b hb).trans e) hn hL (.inr (le_trans I2.sz (le_of_lt hC))) hCc λq hq=>ne_of_lt (lt_trans (Κ (I2.pin q hq).1) hC)),q⟩⟩
end
structure FunV(K:Frag)(x qual:Str)(st:Stmt)(dV:Λ)(f:Addr)(fd:FuncData):Prop where
 ex:∃(oc:Λ) (od:Option Addr) (kV doc pm:Λ) (an:Option Addr) (cdv ct:Λ) (osl:Array (Option Λ)),
  fd=fnOf x qual (zaE st) (zar st) (zad st) dV kV doc pm an cdv ct/\K.lookup f=Φ ⟨oc,od,.func fd,osl⟩/\codeIn K cdv qual=Γ
 kp:keepIn K (.ref f)=Γ
theorem ze0{K}{st}{e kV d g b ct}(l:K.lookup f=Φ ⟨j,m,.func (fnOf x a (zaE st) (zar st) (zad st) e kV d g i b ct),h⟩)(c:codeIn K b a=Γ)(k:keepIn K (.ref f)=Γ):FunV K x a st e f (fnOf x a (zaE st) (zar st) (zad st) e kV d g i b ct):=⟨⟨j,m,kV,d,g,i,b,ct,h,rfl,l,c⟩,k⟩
section
variable{P:Τ}{w:ϐ}{K:Frag}{mg:Str->Option Λ}{base:Heap}
theorem FunV.ok{st}(F:FunV K x b st n f i)(S:FnScope N g (zad st))(len:∀vs H Q E,sp vs H Q E->vs.length=g.length)(c:∀(a:Λ)(A:ϑ)(outer:List Env)(s:Η)(H:Hp)(vs:List V)(Q:VK)(E:XK),Room k (A.deeper (envOfC b (zad st) s.heap.objs.size f a))->sp vs H Q E->
   ∃t,PSs (cxOf CX0 P w K mg base N b (zad st) f a A outer s H E).nox (zar st) t/\t {nx:=λ_ H'=>Q .non H',rt:=Q} (start N vs) H):FnOk P w K mg base CX0 (k+1) f i g sp:=by
 obtain⟨o,p,kV,j,r,u,a,v,l,rfl,lk,d⟩:=F.ex;refine zsc lk d S len λA outer s H vs Q E m e=>?_;obtain⟨t,h,q⟩:=c a A outer s H vs Q E m e;exact⟨t,h.nox,q⟩
theorem FunV.binds{st}(F:FunV K x c st g f fd)(h:∀(kV a d:Λ)(e:Option Addr)(b ct:Λ)(us:List Λ),us.length=ps.length->bindArgs (fnOf x c (zaE st) (zar st) (zad st) g kV a d e b ct) ⟨us,[]⟩=pure (ps.zip us)):Binds K fd ps []:=by
 obtain⟨k,l,kV,a,d,e,b,ct,i,rfl,lk,j⟩:=F.ex;exact .all (h kV a d e b ct)
structure Has(P:Τ)(w:ϐ)(K:Frag)(mg:Str->Option Λ)(base:Heap)(k:Nat)(x:Str)(ps:List Str)(dvs:List V)(sp:Sp):Prop where
 ex:∃(f:Addr) (fd:FuncData) (ds:List Λ),FnOk P w K mg base CX0 k f fd ps sp/\mg x=Φ (.ref f)/\keepIn K (.ref f)=Γ/\Binds K fd ps ds/\Vals dvs ds
end
theorem zrM(G:Has X.prog X.w X.K X.mg X.base k x o a sp)(d:Room k X.A)(g:PA X (e::es) t)(h:Gl X x:=by rfl)(b:(x==("__debug__":Str))=Δ:=by decide)(i:starEach (e::es) X.env=(Δ,eval e X.env)::starEach es X.env:=by rfl)(c:(backTo pos (starEach es X.env)).any (·.1)=Δ:=by rfl):
  PE X (.Call (.Name x p) (e::es) [] pos) (ziO sp a E0 t):=by
 obtain⟨f,q,r,F,j,l,m,n⟩:=G.ex;exact znP F d h j l m n zh2 g b i c
theorem zp4(G:Has X.prog X.w X.K X.mg X.base k x j a sp)(c:Room k X.A)(d:Gl X x:=by rfl)(b:(x==("__debug__":Str))=Δ:=by decide):PE X (.Call (.Name x p) [] [] pos) (ziO sp a E0 tNil):=by
 obtain⟨f,l,m,F,e,g,h,i⟩:=G.ex;exact zlw F c d e g h i zh2 b
mutual
def Rep(H:Hp):PyData->V->Prop
 |.none,v=>v=.non|.bool b,v=>v=.bl b|.int i,v=>v=.int i|.str x,v=>v=.str x|.list ds,v=>∃a vs,v=.ref a/\H a=Φ (.lst vs)/\RepAll H ds vs|.tuple ds,v=>∃a vs,v=.ref a/\H a=Φ (.tup vs)/\RepAll H ds vs|.dict _,_=>False
def RepAll(H:Hp):List PyData->List V->Prop
 | [],vs=>vs=[]|d::ds,vs=>∃v r,vs=v::r/\Rep H d v/\RepAll H ds r
end
mutual
noncomputable def imm:PyData->Bool
 |.none=>Γ|.bool _=>Γ|.int _=>Γ|.str _=>Γ|.list _=>Δ|.tuple ds=>zfK ds|.dict _=>Δ
noncomputable def zfK:List PyData->Bool
 | []=>Γ|d::ds=>imm d&&zfK ds
end
def Tups(H H':Hp):Prop:=∀b a,H b=Φ (.tup a)->H' b=Φ (.tup a)
theorem Tups.refl(H):Tups H H:=λ_ _ h=>h
theorem Tups.trans(a:Tups H e)(b:Tups e f):Tups H f:=λc d h=>b c d (a c d h)
theorem Tups.upd{H:Hp}{p:Addr}{o:HO}(h:∀xs,H p≠Φ (.tup xs)):Tups H (upd H p o):=λb xs e=>by
 have hb:b≠p:=λz=>by subst z;exact h xs e
 rw[zak hb];exact e
theorem Tups.upd_lst(h:H p=Φ (.lst xs)):Tups H (L2.upd H p o):=Tups.upd λa e=>by rw[h]at e;cases e
theorem Tups.upd_new(h:H p=Ψ):Tups H (L2.upd H p o):=Tups.upd λa e=>by rw[h]at e;exact nS e
mutual
theorem Rep.same{H H':Hp}(hs:Same H H'):∀{d:PyData}{v:V},Rep H d v->Rep H' d v
 |.none,_,h=>h|.bool _,_,h=>h|.int _,_,h=>h|.str _,_,h=>h| .list ds,v,h=>by obtain⟨a,vs,e,ha,r⟩:=h;exact⟨a,vs,e,hs _ _ ha,RepAll.same hs r⟩| .tuple ds,v,h=>by obtain⟨a,vs,e,ha,r⟩:=h;exact⟨a,vs,e,hs _ _ ha,RepAll.same hs r⟩|.dict _,_,h=>h
theorem RepAll.same{H H':Hp}(hs:Same H H'):∀{ds:List PyData}{vs:List V},RepAll H ds vs->RepAll H' ds vs
 | [],_,h=>h| d::ds,vs,h=>by obtain⟨v,r,e,h1,h2⟩:=h;exact⟨v,r,e,Rep.same hs h1,RepAll.same hs h2⟩
end
mutual
theorem Rep.tups{H H':Hp}(hs:Tups H H'):∀{d:PyData}{v:V},imm d=Γ->Rep H d v->Rep H' d v
 |.none,_,_,h=>h|.bool _,_,_,h=>h|.int _,_,_,h=>h|.str _,_,_,h=>h|.list ds,v,i,h=>by simp[imm]at i| .tuple ds,v,i,h=>by obtain⟨a,vs,e,ha,r⟩:=h;exact⟨a,vs,e,hs _ _ ha,RepAll.tups hs (by simpa[imm]using i) r⟩|.dict _,_,_,h=>h
theorem RepAll.tups{H H':Hp}(hs:Tups H H'):∀{ds:List PyData}{vs:List V},zfK ds=Γ->RepAll H ds vs->RepAll H' ds vs
 | [],_,_,h=>h| d::ds,vs,i,h=>by
  obtain⟨v,r,e,h1,h2⟩:=h;have i':imm d=Γ/\zfK ds=Γ:=by simpa[zfK]using i
  exact⟨v,r,e,Rep.tups hs i'.1 h1,RepAll.tups hs i'.2 h2⟩
end
mutual
theorem Rep.reads{X:Cx}{pins:List (Addr×Obj)}{σ:St}{H:Hp}{s:Η}(I:Inv X pins σ H s):∀(d:PyData)(v:V)(u:Λ),Rep H d v->RelV v u->∃as,Reads s.heap u d as
 |.none,v,u,h,r=>by cases(show v=.non from h);cases(show u=Λ.none from r);exact⟨_,.none⟩| .bool b,v,u,h,r=>by cases(show v=.bl b from h);cases(show u=Λ.bool b from r);exact⟨_,.bool b⟩| .int i,v,u,h,r=>by cases(show v=.int i from h);obtain⟨t,rfl⟩:=(show ∃t,u=Λ.int i t from r);exact⟨_,.int i t⟩| .str x,v,u,h,r=>by cases(show v=.str x from h);obtain⟨t,rfl⟩:=(show ∃t,u=Λ.str x t from r);exact⟨_,.str x t⟩| .list ds,v,u,h,r=>by obtain⟨a,vs,rfl,ha,hr⟩:=h;cases(show u=Λ.ref a from r);obtain⟨its,n,rv,e,_⟩:=I.lst ha;obtain⟨as,q⟩:=RepAll.reads I ds vs its hr rv;exact⟨_,.list e rfl rfl q⟩| .tuple ds,v,u,h,r=>by obtain⟨a,vs,rfl,ha,hr⟩:=h;cases(show u=Λ.ref a from r);obtain⟨its,rv,⟨o,e1,e2,n,e3⟩,_⟩:=I.tuple (SqT.of (K:=X.K) ha);obtain⟨as,q⟩:=RepAll.reads I ds vs its hr rv;exact⟨_,.tuple e1 e2 e3 q⟩|.dict _,_,_,h,_=>False.elim h
theorem RepAll.reads{X:Cx}{pins:List (Addr×Obj)}{σ:St}{H:Hp}{s:Η}(I:Inv X pins σ H s):∀(ds:List PyData)(vs:List V)(us:List Λ),RepAll H ds vs->Vals vs us->∃as,ReadsAll s.heap us ds as
 | [],vs,us,h,r=>by cases(show vs=[] from h);cases r;exact⟨_,.nil⟩| d::ds,vs,us,h,r=>by obtain⟨v,vr,rfl,h1,h2⟩:=h;cases r with| cons r1 r2=>obtain⟨as,q1⟩:=Rep.reads I d v _ h1 r1;obtain⟨bs,q2⟩:=RepAll.reads I ds vr _ h2 r2;exact⟨_,.cons q1 q2⟩
end
theorem eqv_int(i j):PyData.eqv (.int i) (.int j)=(i==j):=by simp[PyData.eqv]
section
variable{X:Cx}
def rEqD(g:Bool->Bool):R2:=λx y H Q=>∃a b,Rep H a x/\Rep H b y/\a.canLay0=Γ/\b.canLay0=Γ/\min a.depth b.depth<=60/\Q (.bl (g (PyData.eqv a b))) H
theorem zqh(m:X.A.units+64<cLine):OpR X (compareOp .Eq) (rEqD id):=by intro a s n H x y v u Q I b c h;obtain⟨d,e,f,g,i,j,o,q⟩:=h;obtain⟨p,k⟩:=Rep.reads I d x v f b;obtain⟨r,l⟩:=Rep.reads I e y u g c;exact SeqAt.compareEq_reads k l i j (by lia) (zan I q rfl)
theorem zqc(hu:X.A.units+64<cLine):OpR X (compareOp .NotEq) (rEqD not):=by intro pins s σ H x y v u Q I rx ry h;obtain⟨da,db,h1,h2,l1,l2,hd,q⟩:=h;obtain⟨as,r1⟩:=Rep.reads I da x v h1 rx;obtain⟨bs,r2⟩:=Rep.reads I db y u h2 ry;exact SeqAt.compareNe_reads r1 r2 l1 l2 (by lia) (zan I q rfl)
theorem zqg:OpR X (compareOp .Is) (λx y H Q=>∃a b,x=.bl a/\y=.bl b/\Q (.bl (a==b)) H):=by intro c s f H x y v u Q I d e h;obtain⟨a,b,rfl,rfl,q⟩:=h;cases d;cases e;refine wpAny_is_plain (by cases a<;>cases b<;>rfl) (zan I q ?_);cases a<;>cases b<;>rfl
noncomputable def zcS(H:Hp):V->Option String
 |.non=>Φ "NoneType"|.bl _=>Φ "bool"|.int _=>Φ "int"|.str _=>Φ "str"
 |.ref a=>match H a with
  |some (.lst _)=>Φ "list"|some (.frz _ (.lst _))=>Φ "list"|some (.tup _)=>Φ "tuple"|some (.dK _)=>Φ "dict"|some (.dT _)=>Φ "dict"|_=>Ψ
 |_=>Ψ
theorem ziG{K}(h:zcS H x=Φ a):TyOf K H x (.type a):=by
 cases x with
 |non=>cases h;exact .non|bl b=>cases h;exact .bl b|int i=>cases h;exact .int i|str y=>cases h;exact .str y|byt _=>exact nS h
 |flt _=>exact nS h
 |ty _=>exact nS h
 |ref p=>
  unfold zcS at h;cases e:H p with
  |none=>simp[e]at h| some o=>
   cases o with
   |lst d=>simp[e]at h;subst h;exact .lst e|tup d=>simp[e]at h;subst h;exact .tup e|dK c=>simp[e]at h;subst h;exact .dK e|dT c=>simp[e]at h;subst h;exact .dT e| frz f q=>cases q with|lst d=>simp[e]at h;subst h;exact .frz e|_=>simp[e]at h
   |_=>simp[e]at h
noncomputable def subT(a b:String):Bool:=a==b||(a=="bool"&&b=="int")
theorem zob(K)(c:a∈["NoneType","bool","int","str","list","tuple","dict"])(d:b∈["bool","int","str","list","tuple","dict"]):kitOne K (.type a) (.type b)=Φ (subT a b):=by simp only[mem_cons,not_mem_nil,or_false]at c d;rcases c with rfl|rfl|rfl|rfl|rfl|rfl|rfl<;>rcases d with rfl|rfl|rfl|rfl|rfl|rfl<;>rfl
theorem zhG(h:zcS H x=Φ a):a∈["NoneType","bool","int","str","list","tuple","dict"]:=by
 cases x with
 |non=>cases h;simp|bl b=>cases h;simp|int i=>cases h;simp|str y=>cases h;simp|byt _=>exact nS h
 |flt _=>exact nS h
 |ty _=>exact nS h
 |ref p=>unfold zcS at h;simp only at h;split at h<;>first|(cases h;simp)|exact nS h
theorem zgK:za0 X (.builtin "isinstance") (λxs H Q=>∃x c a,xs=[x,.ty c]/\zcS H x=Φ a/\c∈["bool","int","str","list","tuple","dict"]/\Q (.bl (subT a c)) H):=by intro b s k H xs l Q I r h;obtain⟨x,c,a,rfl,d,e,q⟩:=h;obtain⟨u,f,rfl,g,i⟩:=zmU r;cases(show f=Λ.type c from i);exact zjW I g (ziG d) (zob X.K (zhG d) e) λj=>⟨.bl (subT a c),H,I.tok j,rfl,q⟩
end
section
variable{X:Cx}(K:Frag)(hK:X.K=K)
include hK
end
theorem zmJ:bootBuiltins "len"=Φ (.builtin "len"):=by decide +kernel
theorem zq9:bootBuiltins "abs"=Φ (.builtin "abs"):=by decide +kernel
theorem zq6:bootBuiltins "max"=Φ (.builtin "max"):=by decide +kernel
theorem zq8:bootBuiltins "all"=Φ (.builtin "all"):=by decide +kernel
theorem ze7:bootBuiltins "isinstance"=Φ (.builtin "isinstance"):=by decide +kernel
theorem zq7:bootBuiltins "int"=Φ (.type "int"):=by decide +kernel
theorem zoF:bootBuiltins "bool"=Φ (.type "bool"):=by decide +kernel
theorem zq4:bootBuiltins "str"=Φ (.type "str"):=by decide +kernel
theorem zgL:bootBuiltins "list"=Φ (.type "list"):=by decide +kernel
theorem ze6:bootBuiltins "tuple"=Φ (.type "tuple"):=by decide +kernel
theorem zoE:bootBuiltins "dict"=Φ (.type "dict"):=by decide +kernel
theorem zkB:bootBuiltins "set"=Φ (.type "set"):=by decide +kernel
theorem zq2{K}{st}(n)(hn:ps.length=n+ds.length)(F:FunV K x qual st (.ref d) f fd)(e:K.lookup d=Φ ⟨xc,xd,.seq items xn,xs⟩)(h:∀(kV doc pm:Λ)(an:Option Addr)(cdv ct:Λ)(us:List Λ),us.length=n->∃k,bindArgs (fnOf x qual (zaE st) (zar st) (zad st) (.ref d) kV doc pm an cdv ct) ⟨us,[]⟩=seqItems? (.ref d)>>=k/\k (Φ items)=pure (ps.zip (us++ds))):
  Binds K fd ps ds:=by
 obtain⟨oc,od,kV,doc,pm,an,cdv,ct,osl,rfl,lk,hcd⟩:=F.ex;intro s us KX hl;obtain⟨k,h1,h2⟩:=h kV doc pm an cdv ct us (by rw[length_append]at hl;lia);exact BindsTo.of_defaults rfl (KX _ _ e) rfl h1 h2
end L2
namespace R
abbrev K3:=Int×List Int×Int
noncomputable def lexZ:List Int->List Int->Bool
 | [],[]=>Δ| [],_::_=>Γ|_::_,[]=>Δ|x::a,y::b=>if x=y then lexZ a b else decide (x<y)
theorem zcz(x y)(xs ys):lexZ (x::xs) (y::ys)=if x=y then lexZ xs ys else decide (x<y):=rfl
theorem zb1:∀l:List Int,lexZ l l=Δ
 | []=>rfl|x::l=>by rw[zcz,if_pos rfl];exact zb1 l
theorem zfB:∀{a b c:List Int},lexZ a b=Γ->lexZ b c=Γ->lexZ a c=Γ
 | [],[],c,h,k=>nB h| [],y::b,[],h,k=>nB k| [],y::b,z::c,h,k=>rfl|x::a,[],c,h,k=>nB h|x::a,y::b,[],h,k=>nB k| x::a,y::b,z::c,h,k=>by rw[zcz]at h k⊢;split at h;rename_i d;split at k;rename_i e;rw[if_pos (d.trans e)];exact zfB h k;rw[if_neg (by lia)];exact decide_eq_true (by lia);split at k;rw[if_neg (by lia)];exact decide_eq_true (by lia);rw[if_neg (by lia)];exact decide_eq_true (by lia)
theorem zfC:∀{a b:List Int},a≠b->lexZ a b=Γ\/lexZ b a=Γ
 | [],[],h=>absurd rfl h| [],y::b,_=>.inl rfl|x::a,[],_=>.inr rfl| x::a,y::b,h=>by rw[zcz,zcz];by_cases e:x=y;subst e;rw[if_pos rfl,if_pos rfl];exact zfC λz=>h (by rw[z]);rw[if_neg e,if_neg (Ne.symm e)];rcases Int.lt_or_gt_of_ne e with z|z;exact .inl (decide_eq_true z);exact .inr (decide_eq_true z)
theorem zfO{b:Type}{p q}:∀{l:List b},(∀x∈l,p x=Γ->q x=Γ)->(l.filter p).length<=(l.filter q).length
 | [],_=>le_refl _| x::l,h=>by have a:=zfO λy c=>h y (Ν _ c);rw[List.filter_cons,List.filter_cons];cases e:p x with|true=>rw[h x Ρ e];simp;exact a| false=>cases q x with|true=>simp;lia|false=>simpa using a
theorem zfN{c:Type}{p q}:∀{l:List c}{a:c},(∀x∈l,p x=Γ->q x=Γ)->a∈l->p a=Δ->q a=Γ->(l.filter p).length<(l.filter q).length
 | [],_,_,h,_,_=>by cases h| x::l,a,h,g,i,d=>by rw[List.filter_cons,List.filter_cons];rcases mem_cons.mp g with e|e;subst e;have:=zfO λy b=>h y (Ν _ b);rw[d];simp;lia;have f:=zfN (λy b=>h y (Ν _ b)) e i d;cases j:p x with|true=>rw[h x Ρ j];simp;exact f| false=>cases q x with|true=>simp;lia|false=>simpa using f
end R
namespace R
open PySem PySem.Spec PyProof.Rows L2
section
variable{prog:Τ}{w:ϐ}{A:ϑ}{E:Λ->Η->Prop}{s:Η}
def IsTri(prog:Τ)(w:ϐ)(h:Heap)(k:K3)(a:Addr):Prop:=∃o t u b n,h.get? a=Φ o/\o.cls=.type "tuple"/\o.data=.seq #[.int k.1 t,.ref b,.int k.2.2 u] n/\IsTupleKey (zaf prog w) h (k.2.1.map Sum.inl) b
theorem zdG{x y:List Int}(h:(x.map Sum.inl:List Key)=y.map Sum.inl):x=y:=(List.map_inj_right (λa b e=>Sum.inl.inj e)).mp h
theorem IsTri.typeIs(x:IsTri prog w s.heap k a):s.TypeIs (.ref a) "tuple":=by obtain⟨o,_,_,_,_,b,c,_⟩:=x;exact⟨o,b,c⟩
theorem IsTri.inj(g:IsTri prog w h x a)(i:IsTri prog w h y a):x=y:=by obtain⟨o,t,u,b,n,j,_,k,l⟩:=g;obtain⟨m,p,q,r,v,e,_,c,f⟩:=i;obtain rfl:o=m:=Option.some.inj (j.symm.trans e);rw[k]at c;injection c with d _;have d:=congrArg Array.toList d;simp only[List.cons.injEq,Λ.int.injEq,Λ.ref.injEq]at d;obtain⟨⟨z,_⟩,rfl,B,_⟩:=d;have C:=zdG (l.inj f);obtain⟨G,H,I⟩:=x;simp_all
theorem IsTri.keeps(x:IsTri prog w h k a)(g:h.get? d=Φ o)(hd:o.data=.dict es p)(i:Heap.SameBut d h h'):IsTri prog w h' k a:=by
 obtain⟨j,t,u,b,n,e,l,c,m⟩:=x;have f:a≠d:=by rintro rfl;obtain rfl:j=o:=Option.some.inj (e.symm.trans g);rw[hd]at c;exact by cases c
 exact⟨j,t,u,b,n,(i.2 a f).trans e,l,c,m.keeps g hd i⟩
noncomputable def zdd(prog:Τ)(w:ϐ)(k:K3):Int:=reduceHash (Builtin.Tuple.tupleHashOf [hashInt k.1,tupleKeyHash (zaf prog w) (k.2.1.map Sum.inl),hashInt k.2.2])
theorem zcY(hu:A.units+4<cLine)(hk:IsTri prog w s.heap k a)(h:Q (zdd prog w k) {s with toks:=s.toks+(k.2.1.length+4)}):
  wpAny (model prog w) A (pyHash (.ref a)) Q E s:=by
 have hT:=hk.typeIs;obtain⟨o,t,u,b,n,ho,_,hd,hi⟩:=hk;unfold pyHash
 first|unfold pyHashByItsType|skip
 first|refine Θ (wpAny_cRoomFor_or (.inr (by lia)) ?_)|skip
 refine Θ (Ϩ hT F.slot_tuple_hash.lookup ?_);show wpAny _ _ (if(Φ (Λ.builtin "tuple.__hash__")==Φ Λ.none)=Γ then _ else _) Q E s;rw[if_neg (by rw[beq_builtin_none];exact Ζ)];refine Θ (Ϩ hT F.slot_tuple_hash.lookup ?_);show wpAny _ _ (callSpecialIfBoundUnlessNone? (.ref a) "__hash__" _>>=_) Q E s;refine Θ (wpAny_callSpecialIfBoundUnlessNone?_slot hT F.slot_tuple_hash (ύ F.slot_tuple_hash hT F.entry_tuple_hash ?_ (F.args_tuple_hash_1 _)));show wpAny _ _ (Builtin.Tuple.tupleItemsOf (.ref a)>>=_) _ _ s;refine Θ (wpAny_tupleItemsOf ho hd ?_);refine Θ ?_;rw[<-Ϣ];refine ϙ _
  (λrest (g:Array Int) s'=>(rest=[.int k.1 t,.ref b,.int k.2.2 u]/\g.toList=[]/\s'=s)\/(rest=[.ref b,.int k.2.2 u]/\g.toList=[hashInt k.1]/\s'={s with toks:=s.toks+1})
   \/(rest=[.int k.2.2 u]/\g.toList=[hashInt k.1,tupleKeyHash (zaf prog w) (k.2.1.map Sum.inl)]/\s'={s with toks:=s.toks+(k.2.1.length+2)})
   \/(rest=[]/\g.toList=[hashInt k.1,tupleKeyHash (zaf prog w) (k.2.1.map Sum.inl),hashInt k.2.2]/\s'={s with toks:=s.toks+(k.2.1.length+3)}))
  _ ?_ ?_ _ _ (.inl ⟨rfl,rfl,rfl⟩)
 rintro x rest g s' (⟨e,hg,rfl⟩|⟨e,hg,rfl⟩|⟨e,hg,rfl⟩|⟨e,hg,rfl⟩);cases e;refine Θ (wpAny_pyHash_int ?_);exact Ξ (.inr (.inl ⟨rfl,by simp[hg],rfl⟩));cases e;refine Θ (wpAny_pyHash_tuple (knd:=zaf prog w) (ks:=k.2.1.map Sum.inl) ?_ hi ?_);show A.units+1<cLine;lia;exact Ξ (.inr (.inr (.inl ⟨rfl,by simp[hg],by simp only[length_map];congr 1;lia⟩)));cases e;refine Θ (wpAny_pyHash_int ?_);exact Ξ (.inr (.inr (.inr ⟨rfl,by simp[hg],by simp[Ϯ]⟩)));cases e;rintro g s' (⟨e,hg,rfl⟩|⟨e,hg,rfl⟩|⟨e,hg,rfl⟩|⟨e,hg,rfl⟩);cases e;cases e;cases e;show wpAny _ _ (retInt (Builtin.Tuple.tupleHashOf g.toList)) _ _ _;rw[hg];refine wpAny_ret_mkInt ?_;show wpAny _ _ (if(decide (-(2:Int)^63<=Builtin.Tuple.tupleHashOf [hashInt k.1,tupleKeyHash (zaf prog w) (k.2.1.map Sum.inl),hashInt k.2.2])&&decide (Builtin.Tuple.tupleHashOf [hashInt k.1,tupleKeyHash (zaf prog w) (k.2.1.map Sum.inl),hashInt k.2.2]<2^63))=Γ then _ else _) Q E _;unfold zdd reduceHash at h;by_cases hr:(decide (-(2:Int)^63<=Builtin.Tuple.tupleHashOf [hashInt k.1,tupleKeyHash (zaf prog w) (k.2.1.map Sum.inl),hashInt k.2.2])&&decide (Builtin.Tuple.tupleHashOf [hashInt k.1,tupleKeyHash (zaf prog w) (k.2.1.map Sum.inl),hashInt k.2.2]<2^63))=Γ;rw[if_pos hr];rw[if_pos hr]at h;exact Ξ (by simpa[Ϯ]using h);rw[if_neg hr];rw[if_neg hr]at h;exact Θ (Ϭ (Ξ (by simpa[Ϯ]using h)))
theorem zgc(T:A.units<cLine)(U:IsTri prog w s.heap x a)(M:IsTri prog w s.heap y b)(h:P (.done (.ret (.bool (decide (x=y))))) s):
  wpAny (model prog w) A (Builtin.«tuple.__eq__» ⟨[.ref a,.ref b],[]⟩) P E s:=by
 have m:=M.typeIs;obtain⟨oa,Y,n,N,na,o,_,t,u⟩:=U;obtain⟨ob,t2,v,O,nb,B,_,C,G⟩:=M;obtain⟨g,H,i⟩:=x;obtain⟨j,I,k⟩:=y;show wpAny _ _ (isInstance (.ref b) (.type "tuple")>>=_) _ _ s;refine Θ (ϭ m isSubtype_tuple_tuple ?_);simp only[Bool.not_true,Υ,if_false];refine Θ (wpAny_tupleItemsOf o t ?_);refine Θ (wpAny_tupleItemsOf B C ?_);refine Θ ?_;refine ϙ _
  (λc r J=>r.1=Ψ/\J=s/\(c=[(.int g Y,.int j t2),(.ref N,.ref O),(.int i n,.int k v)]\/(c=[(.ref N,.ref O),(.int i n,.int k v)]/\g=j)\/(c=[(.int i n,.int k v)]/\g=j/\H=I)\/(c=[]/\g=j/\H=I/\i=k)))
  _ ?_ ?_ _ _ ⟨rfl,rfl,.inl rfl⟩
 rintro⟨p,q⟩ c r J ⟨L,rfl,(e|⟨e,f⟩|⟨e,f,l⟩|⟨e,f,l,Q⟩)⟩;cases e;refine Θ (wpAny_eqBool_int ?_);by_cases d:g=j;rw[show(g==j)=Γ by simp[d]];simp only[Bool.not_true,Υ,if_false];exact Ξ ⟨rfl,rfl,.inr (.inl ⟨trivial,d⟩)⟩;rw[show(g==j)=Δ by simp[d]];simp only[Bool.not_false,if_true];rw[decide_eq_false (by simp[d])]at h;exact Θ (Ξ (Ξ (Ξ h)));cases e;refine Θ (wpAny_eqBool_tuple T u G ?_);by_cases d:H=I;rw[decide_eq_true (by rw[d])];simp only[Bool.not_true,Υ,if_false];exact Ξ ⟨rfl,rfl,.inr (.inr (.inl ⟨trivial,f,d⟩))⟩;rw[decide_eq_false (λz=>d (zdG z))];simp only[Bool.not_false,if_true];rw[decide_eq_false (by simp[d])]at h;exact Θ (Ξ (Ξ (Ξ h)));cases e;refine Θ (wpAny_eqBool_int ?_);by_cases d:i=k;rw[show(i==k)=Γ by simp[d]];simp only[Bool.not_true,Υ,if_false];exact Ξ ⟨rfl,rfl,.inr (.inr (.inr ⟨trivial,f,l,d⟩))⟩;rw[show(i==k)=Δ by simp[d]];simp only[Bool.not_false,if_true];rw[decide_eq_false (by simp[d])]at h;exact Θ (Ξ (Ξ (Ξ h)));cases e;rintro⟨r1,r2⟩ J ⟨L,rfl,(e|⟨e,f⟩|⟨e,f,l⟩|⟨e,f,l,Q⟩)⟩;cases e;cases e;cases e;simp only at L;subst L;refine Ξ ?_;rw[decide_eq_true (by rw[f,l,Q])]at h;exact h
theorem zcZ(hu:A.units+4<cLine)(hx:IsTri prog w s.heap x a)(hy:IsTri prog w s.heap y b)(h:Q (decide (x=y)) s):
  wpAny (model prog w) A (eqBool (.ref a) (.ref b)) Q E s:=by
 unfold eqBool
 try with_reducible refine ϖ ?_
 show wpAny _ _ (if(Λ.ref a==Λ.ref b)=Γ then _ else _) Q E s;by_cases hab:(Λ.ref a==Λ.ref b)=Γ;rw[if_pos hab];have e:a=b:=by have:=eq_of_beq hab;injection this
 subst e;obtain rfl:=hx.inj hy;exact Θ (Ϭ (Ξ (by simpa using h)))
 rw[if_neg hab];exact Θ (wpAny_richCompare_same_room (op:=.Eq) hx.typeIs hy.typeIs F.slot_tuple_eq
  (ύ F.slot_tuple_eq hx.typeIs F.entry_tuple_eq (zgc (by show A.units+1<cLine;lia) hx hy ⟨_,rfl,(λe=>by cases e),Ϟ h⟩) (F.args_tuple_eq_2 _ _)) (by lia))
theorem zmj(g:IsTupleKey (zaf prog w) s.heap ks a)(h:Q Γ s):wpAny (model prog w) A (eqIsQuiet 7 (.ref a)) Q E s:=by have i:=g.typeIs;obtain⟨o,d,n,k,_,l,m⟩:=g;unfold eqIsQuiet;refine Θ (Ϩ i F.slot_tuple_eq.lookup ?_);refine Θ (ϭ i isSubtype_tuple_tuple ?_);refine Θ (ϥ k l ?_);refine Θ ?_;rw[<-Ϣ];refine ϙ _ (λb r e=>r.1=Ψ/\e=s/\∀v∈b,carriedByValue v=Γ) _ ?_ ?_ _ _ ⟨rfl,rfl,m.byValue⟩;rintro v b r e ⟨j,rfl,c⟩;rw[eqIsQuiet_byValue _ (c v Ρ)];refine Θ (Ξ ?_);exact Ξ ⟨rfl,rfl,λu f=>c u (Ν _ f)⟩;rintro⟨p,q⟩ e ⟨j,rfl,_⟩;subst j;exact Ξ h
theorem zcf(hk:IsTri prog w s.heap k a)(h:Q Γ s):wpAny (model prog w) A (eqIsQuiet 8 (.ref a)) Q E s:=by have hT:=hk.typeIs;obtain⟨o,t,u,b,n,ho,_,hd,hi⟩:=hk;unfold eqIsQuiet;refine Θ (Ϩ hT F.slot_tuple_eq.lookup ?_);refine Θ (ϭ hT isSubtype_tuple_tuple ?_);refine Θ (ϥ ho hd ?_);refine Θ ?_;show wpAny _ _ (forIn #[Λ.int k.1 t,.ref b,.int k.2.2 u] _ _) _ _ s;rw[<-Ϣ];refine ϙ _ (λrest r s'=>r.1=Ψ/\s'=s/\∀v∈rest,carriedByValue v=Γ\/v=.ref b) _ ?_ ?_ _ _ ⟨rfl,rfl,λv hv=>by simp only[mem_cons,not_mem_nil,or_false]at hv;rcases hv with rfl|rfl|rfl;exact .inl rfl;exact .inr rfl;exact .inl rfl⟩;rintro v rest r s' ⟨hr,rfl,hall⟩;rcases hall v Ρ with hv|rfl;rw[eqIsQuiet_byValue _ hv];refine Θ (Ξ ?_);exact Ξ ⟨rfl,rfl,λu hu'=>hall u (Ν _ hu')⟩;refine Θ (zmj hi ?_);exact Ξ ⟨rfl,rfl,λu hu'=>hall u (Ν _ hu')⟩;rintro⟨r1,r2⟩ s' ⟨hr,rfl,_⟩;subst hr;exact Ξ h
end
noncomputable def zbh(prog:Τ)(w:ϐ):HeapKind prog w K3 where
 is:=IsTri prog w
 hash:=zdd prog w
 draws:=λk=>k.2.1.length+4
 room:=λA=>A.units+4<cLine
 inj:=λhx hy=>hx.inj hy
 keeps:=λx ho hd hs=>x.keeps ho hd hs
 pyHash:=λhu hk h=>zcY hu hk h
 eqBool:=λhu hx hy h=>zcZ hu hx hy h
 quiet:=λhk h=>zcf hk h
noncomputable def zlN(k:K3):Int:=reduceHash (Builtin.Tuple.tupleHashOf [hashInt k.1,reduceHash (Builtin.Tuple.tupleHashOf (k.2.1.map hashInt)),hashInt k.2.2])
theorem zlM(k):(zbh P w).hash k=zlN k:=by show zdd P w k=zlN k;unfold zdd zlN tupleKeyHash;rw[map_map];rfl
def P3(p:K3×Addr×V)(q:K3×Addr×Λ):Prop:=p.1=q.1/\p.2.1=q.2.1/\RelV p.2.2 q.2.2
noncomputable def ent3(x:K3×Addr×Λ):DictEntry:=⟨zlN x.1,.ref x.2.1,x.2.2⟩
theorem zgF(x):entryOfKey (zbh P w) x=ent3 x:=by unfold entryOfKey ent3;rw[zlM]
def TriO(a:Addr)(b:List (K3×Addr×V))(h:Heap):Prop:=b.length<=sizeLine/\(a==sysModules)=Δ/\∃c,Paired P3 b c/\∃o d e,h.get? a=Φ o/\o.ExactDict/\o.data=.dict d e/\d.toList=c.map ent3/\(c.map (·.1)).Nodup
def Key3(H:Hp)(k:K3)(c:Addr):Prop:=∃b,H c=Φ (.tup [.int k.1,.ref b,.int k.2.2])/\H b=Φ (.tup (k.2.1.map V.int))
def TriK(H:Hp)(a:List (K3×Addr×V)):Prop:=∀x∈a,Key3 H x.1 x.2.1
theorem Key3.up(h:Key3 H k c)(ht:∀b xs,H b=Φ (.tup xs)->H' b=Φ (.tup xs)):Key3 H' k c:=let ⟨b,h1,h2⟩:=h;⟨b,ht _ _ h1,ht _ _ h2⟩
theorem TriO.stay(x:TriO a b h)(k:∀o,h.get? a=Φ o->h'.get? a=Φ o):TriO a b h':=by obtain⟨z,y,d,r,o,f,g,e,c⟩:=x;exact⟨z,y,d,r,o,f,g,k _ e,c⟩
theorem TriO.objOk(x:TriO a b h):ObjOk P w H h a (.ext (TriO a b)):=by refine⟨x,?_,λc d p k=>p.stay k⟩;obtain⟨_,_,_,_,o,_,_,e,_⟩:=x;exact⟨o,e⟩
theorem zmm:∀{a:List (K3×Addr×V)}{xs:List (K3×Addr×Λ)},Paired P3 a xs->xs.length=a.length
 |_,_,.nil=>rfl|_,_,.cons _ t=>by simp[zmm t]
theorem zeM:∀{a:List (K3×Addr×V)}{xs:List (K3×Addr×Λ)},Paired P3 a xs->xs.map (·.1)=a.map (·.1)
 |_,_,.nil=>rfl|_,_,.cons h t=>by rw[ϋ,ϋ,zeM t,h.1]
section
variable{P:Τ}{w:ϐ}{H:Hp}{h:Heap}{a c:Addr}{kxs:List (K3×Addr×V)}
theorem key3_of(ok:HOk P w H h)(e:Key3 H k c):IsTri P w h k c:=by obtain⟨b,f,g⟩:=e;obtain⟨_,i,d,o,j,l,n,m⟩:=(show ObjOk P w H h c (.tup _) from ok c _ f);cases d with| @cons _ v _ x p d=>cases d with| @cons _ q _ y r d=>cases d with| @cons _ z _ A s d=>cases d;obtain⟨t,rfl⟩:=p;cases(show q=Λ.ref b from r);obtain⟨u,rfl⟩:=s;refine⟨o,t,u,b,n,j,l,m,?_⟩;have:=zhj (ks:=k.2.1.map Sum.inl) ok (by rw[map_map];exact g);exact this
theorem ziL(ok:HOk P w H h)(e:H a=Φ (.ext (TriO a kxs)))(d:TriK H kxs):kxs.length<=sizeLine/\(a==sysModules)=Δ/\∃xs,Paired P3 kxs xs/\h.DictOfH (zbh P w) a xs:=by
 obtain⟨⟨z,y,xs,r,o,i,j,k,b,n,s,u⟩,_,_⟩:=(show ObjOk P w H h a (.ext _) from ok a _ e);refine⟨z,y,xs,r,o,i,j,k,b,n,?_,?_,u⟩;rw[s];exact Ϙ λx _=>(zgF x).symm;have f:∀{l:List (K3×Addr×V)}{m:List (K3×Addr×Λ)},Paired P3 l m->TriK H l->∀x∈m,(zbh P w).is h x.1 x.2.1:=by
  intro l m q;induction q with
  |nil=>intro _ x b;exact by cases b
  | @cons p q B C g t v=>intro d x b;rcases mem_cons.mp b with e|b;subst e;rw[<-g.1,<-g.2.1];exact key3_of ok (d p Ρ);exact v (λy A=>d y (Ν _ A)) x b
 exact f r d
end
noncomputable def put3(a:List (K3×Addr×V))(k:K3)(c:Addr)(v:V):List (K3×Addr×V):=if k∈a.map (·.1) then a.map (λx=>if x.1=k then(x.1,x.2.1,v) else x) else a++[(k,c,v)]
theorem zbT{k:K3}:(atKey xs k).isSome=decide (k∈xs.map (·.1)):=by unfold atKey;rw[Option.isSome_map];apply Bool.eq_iff_iff.mpr;rw[List.find?_isSome,decide_eq_true_eq,mem_map];constructor;rintro⟨x,a,e⟩;exact⟨x,a,by simpa using e⟩;rintro⟨x,a,e⟩;exact⟨x,a,by simpa using e⟩
theorem zp9(g:RelV v r)(h:Paired P3 d xs):Paired P3 (put3 d k c v) (storedH xs k c r):=by
 unfold put3 storedH;rw[zbT,zeM h];by_cases b:k∈d.map (·.1);rw[if_pos b,if_pos (by simpa using b)];clear b;induction h with|nil=>exact .nil| @cons p q i j a t f=>rw[ϋ];refine .cons ?_ f;unfold putAt;by_cases e:p.1=k;rw[if_pos e,if_pos (by rw[<-a.1];exact e)];exact⟨a.1,a.2.1,g⟩;rw[if_neg e,if_neg (by rw[<-a.1];exact e)];exact a
 rw[if_neg b,if_neg (by simpa using b)];clear b;induction h with|nil=>exact .cons ⟨rfl,rfl,g⟩ .nil|cons a t f=>exact .cons a f
theorem put3_len(a)(k)(c)(v):(put3 a k c v).length<=a.length+1:=by unfold put3;split;rw[length_map];lia;simp
section
variable{X:Cx}{pins:List (Addr×Obj)}{σ:L2.St}{H:Hp}{s:Η}{a c:Addr}{kxs:List (K3×Addr×V)}{k:K3}{v:V}{r:Λ}{A:ϑ}{E:Λ->Η->Prop}
theorem zin(G:A.units+5<cLine)(I:Inv X pins σ H s)(e:H a=Φ (.ext (TriO a kxs)))(g:TriK H kxs)(i:Key3 H k c)(J:kxs.length<sizeLine)(j:RelV v r)(h:∀s',Inv X pins σ (upd H a (.ext (TriO a (put3 kxs k c v)))) s'->Q () s'):wpAny (model X.prog X.w) A (setItem (.ref a) (.ref c) r) Q E s:=by
 obtain⟨z,l,m,b,n⟩:=ziL I.hok e g;have L:m.length<=sizeLine:=by rw[zmm b];exact z
 have o:=put3_len kxs k c v;refine wpAny_setItem_heap (show A.units+1+4<cLine by omega) (key3_of I.hok i) n λM d p=>h _ ?_;obtain⟨q,t,u,f,w,y,B,_,C⟩:=d;refine zgH I (by rw[e];exact True.intro) p ⟨q,f⟩ (TriO.objOk ⟨by omega,l,_,zp9 j b,q,t,u,f,w,y,?_,C⟩);rw[B];exact Ϙ λx _=>zgF x
theorem zsk(l:A.units+5<cLine)(I:Inv X pins σ H s)(e:H a=Φ (.ext (TriO a kxs)))(f:TriK H kxs)(g:Key3 H k c)(h:∀s',Inv X pins σ H s'->Q (.bool (decide (k∈kxs.map (·.1)))) s'):
  wpAny (model X.prog X.w) A (compareOp .In (.ref c) (.ref a)) Q E s:=by
 obtain⟨z,i,m,d,j⟩:=ziL I.hok e f;refine wpAny_in_heap (show A.units+1+4<cLine by omega) (key3_of I.hok g) i j ?_;rw[zbT,zeM d];exact h _ (I.kept λb o e=>e)
theorem zlU(l:A.units+5<cLine)(I:Inv X pins σ H s)(e:H a=Φ (.ext (TriO a kxs)))(f:TriK H kxs)(g:Key3 H k c)(h:∀s',Inv X pins σ H s'->Q (.bool (!decide (k∈kxs.map (·.1)))) s'):
  wpAny (model X.prog X.w) A (compareOp .NotIn (.ref c) (.ref a)) Q E s:=by
 obtain⟨z,i,m,d,j⟩:=ziL I.hok e f;refine wpAny_notIn_heap (show A.units+1+4<cLine by omega) (key3_of I.hok g) i j ?_;rw[zbT,zeM d];exact h _ (I.kept λb o e=>e)
theorem zlt:PE X (.Dict [] [] pos) (λ_ H Q=>∀p,H p=Ψ->Q (.ref p) (upd H p (.ext (TriO p [])))):=λpins s σ H Q I h=>
 wpAny_Dict_empty ⟨.ref s.heap.objs.size,_,I.laid (λ_ _ q=>Ω _ q) (le_refl _)
  (TriO.objOk ⟨zero_le _,beq_eq_false_iff_ne.mpr (Ne.symm (ne_of_lt I.big)),[],.nil,_,#[],0,Ι _ rfl,⟨rfl,rfl,rfl⟩,rfl,rfl,List.nodup_nil⟩),rfl,h _ (I.hok.fresh (le_refl _))⟩
end
end R
namespace R
noncomputable def zrC(a b:Int×Int):Bool:=decide (b.2<a.2\/(a.2=b.2/\a.1<=b.1))
noncomputable def zo1(a:List (Int×Int)):List (Int×Int):=a.mergeSort zrC
noncomputable def bump:List (Int×Int)->Int->List (Int×Int)
 | [],w=>[(w,1)]|(k,c)::r,w=>if k=w then(k,c+1)::r else(k,c)::bump r w
noncomputable def zen(b:List (Int×Int))(c:List (Option Int)):List (Int×Int):=c.foldl (λa w=>match w with|some x=>bump a x|none=>a) b
noncomputable abbrev KP:=List Int×Int×Int
noncomputable def LtP(a b:KP):Prop:=lexZ a.1 b.1=Γ\/(a.1=b.1/\(a.2.1<b.2.1\/(a.2.1=b.2.1/\a.2.2<b.2.2)))
noncomputable instance(a b:KP):Decidable (LtP a b):=by unfold LtP;infer_instance
theorem za8(a):¬LtP a a:=by unfold LtP;rw[zb1];simp
theorem zdy(h:LtP a b)(k:LtP b c):LtP a c:=by rcases h with h|⟨e,g⟩;rcases k with k|⟨d,f⟩;exact .inl (zfB h k);exact .inl (d▸h);rcases k with k|⟨d,f⟩;exact .inl (e▸k);exact .inr ⟨e.trans d,by lia⟩
theorem zfz(h:a≠b):LtP a b\/LtP b a:=by unfold LtP;obtain⟨g,e,i⟩:=a;obtain⟨j,f,k⟩:=b;by_cases c:g=j;have:¬(e=f/\i=k):=λz=>h (by rw[c,z.1,z.2]);by_cases d:e=f;rcases Int.lt_or_gt_of_ne (λz=>this ⟨d,z⟩) with z|z;exact .inl (.inr ⟨c,.inr ⟨d,z⟩⟩);exact .inr (.inr ⟨c.symm,.inr ⟨d.symm,z⟩⟩);rcases Int.lt_or_gt_of_ne d with z|z;exact .inl (.inr ⟨c,.inl z⟩);exact .inr (.inr ⟨c.symm,.inl z⟩);rcases zfC c with z|z;exact .inl (.inl z);exact .inr (.inl z)
noncomputable def insP(x:KP):List KP->List KP
 | []=>[x]|y::l=>if x=y then y::l else if LtP x y then x::y::l else y::insP x l
noncomputable def zcs:List KP->List KP
 | []=>[]|x::l=>insP x (zcs l)
theorem zeX(x z):∀l:List KP,z∈insP x l↔z=x\/z∈l
 | []=>by simp[insP]| y::l=>by unfold insP;split;rename_i e;subst e;simp;split;simp;rw[mem_cons,zeX x z l,mem_cons];constructor;rintro(h|h|h);exact .inr (.inl h);exact .inl h;exact .inr (.inr h);rintro(h|h|h);exact .inr (.inl h);exact .inl h;exact .inr (.inr h)
theorem zdF(x):∀{l:List KP},l.Pairwise LtP->(insP x l).Pairwise LtP
 | [],_=>by simp[insP]| y::l,h=>by have h':=pairwise_cons.mp h;unfold insP;split;exact h;rename_i ne;split;rename_i c;exact pairwise_cons.mpr ⟨λz hz=>by rcases mem_cons.mp hz with e|e;rw[e];exact c;exact zdy c (h'.1 z e),h⟩;rename_i c;refine pairwise_cons.mpr ⟨λz hz=>?_,zdF x h'.2⟩;rcases(zeX x z l).mp hz with e|e;rw[e];rcases zfz (a:=y) (b:=x) (λz=>ne z.symm) with q|q;exact q;exact absurd q c;exact h'.1 z e
theorem zcr(z):∀l:List KP,z∈zcs l↔z∈l
 | []=>Iff.rfl|x::l=>by rw[zcs,zeX,zcr z l,mem_cons]
theorem zbE:∀l:List KP,(zcs l).Pairwise LtP
 | []=>Pairwise.nil|x::l=>zdF x (zbE l)
theorem zjB{l:List KP}(h:l.Pairwise LtP):l.Nodup:=by exact h.imp λ{a b} h e=>by subst e;exact za8 a h
theorem zdf:∀{a b:List KP},(∀z,z∈a↔z∈b)->a.Pairwise LtP->b.Pairwise LtP->a=b
 | [],[],_,_,_=>rfl| [],y::b,p,_,_=>absurd ((p y).mpr Ρ) (by simp)|x::a,[],p,_,_=>absurd ((p x).mp Ρ) (by simp)| x::a,y::b,p,i,j=>by
  have c:=pairwise_cons.mp i;have d:=pairwise_cons.mp j;have e:x=y:=by rcases mem_cons.mp ((p x).mp Ρ) with f|f;exact f;rcases mem_cons.mp ((p y).mpr Ρ) with g|g;exact g.symm;exact absurd (zdy (d.1 x f) (c.1 y g)) (za8 y)
  subst e;have:∀z,z∈a↔z∈b:=λz=>by constructor;intro h;rcases mem_cons.mp ((p z).mp (Ν _ h)) with e|e;exact absurd (c.1 z h) (e▸za8 _);exact e;intro h;rcases mem_cons.mp ((p z).mpr (Ν _ h)) with e|e;exact absurd (d.1 z h) (e▸za8 _);exact e
  rw[zdf this c.2 d.2]
end R
namespace R
open PySem (Str PyData Operator CmpOp)
set_option genInjectivity true in
inductive D where
 |non|bl (b:Bool)|int (i:Int)|str (x:Str)|tup (ds:List D)|ref (l:Nat)
 |fix (ds:List D)
inductive MO where
 |lst (ds:List D)|ins (c:Nat) (fs:List (Str×D))
 |d3 (kvs:List (K3×D))
structure St where
 frz:List MO
 new:List MO
 lk:List Nat
inductive Out(α:Type) where
 |ok (a:α) (S:St)
 |err (d:D) (S:St)
 |bad
noncomputable def Out.bind{b c:Type}(o:Out b)(f:b->St->Out c):Out c:=match o with|.ok a S=>f a S|.err d S=>.err d S|.bad=>.bad
noncomputable def lift{b:Type}(S:St):Option b->Out b
 |some a=>.ok a S|none=>.bad
namespace St
noncomputable def get(S:St)(l:Nat):Option MO:=if l<S.frz.length then S.frz[l]? else S.new[l-S.frz.length]?
noncomputable def len(S:St):Nat:=S.frz.length+S.new.length
noncomputable def push(S:St)(o:MO):St:={S with new:=S.new++[o]}
noncomputable def put(S:St)(l:Nat)(o:MO):Option St:=if l<S.frz.length then Ψ else if S.lk.contains l then Ψ else Φ {S with new:=S.new.set (l-S.frz.length) o}
noncomputable def enter(S:St):St:=⟨S.frz++S.new,[],[]⟩
end St
noncomputable def lay(S:St)(a:List D):Out D:=if a.length<=16777216 then .ok (.ref S.len) (S.push (.lst a)) else .bad
noncomputable def wr(S:St)(l:Nat)(a:List D)(d:D):Out D:=if a.length<=16777216 then(match S.put l (.lst a) with|some b=>.ok d b|none=>.bad) else .bad
noncomputable def pd(S:St):Nat->D->Option PyData
 |_,.non=>Φ .none|_,.bl b=>Φ (.bool b)|_,.int i=>Φ (.int i)|_,.str x=>if PySem.PyData.strOk x then Φ (.str x) else Ψ|n+1,.tup a=>(a.mapM (pd S n)).map PyData.tuple
 |n+1,.ref l=>match S.get l with
  |some (.lst a)=>(a.mapM (pd S n)).map PyData.list|_=>Ψ
 |_,.fix _=>Ψ|0,_=>Ψ
mutual
noncomputable def flat(n:Nat):D->Bool
 |.tup ds=>flats n ds|.ref l=>decide (l<n)|.fix ds=>flats n ds|_=>Γ
noncomputable def flats(n:Nat):List D->Bool
 | []=>Γ|d::ds=>flat n d&&flats n ds
end
noncomputable def zct(S:St):D->Option (List D)
 |.tup a=>Φ a|.fix a=>Φ a
 |.ref l=>match S.get l with
  |some (.lst a)=>Φ a|_=>Ψ
 |_=>Ψ
noncomputable def lkOf(S:St):D->List Nat
 |.ref l=>[l]|_=>[]
noncomputable def tru(S:St):D->Option Bool
 |.non=>Φ Δ|.bl b=>Φ b|.int i=>Φ (i != 0)|.tup a=>Φ (!a.isEmpty)
 |.ref l=>match S.get l with
  |some (.lst a)=>Φ (!a.isEmpty)|_=>Ψ
 |_=>Ψ
noncomputable def tyOf(S:St):D->Option String
 |.non=>Φ "NoneType"|.bl _=>Φ "bool"|.int _=>Φ "int"|.str _=>Φ "str"|.tup _=>Φ "tuple"
 |.ref l=>match S.get l with
  |some (.lst _)=>Φ "list"|_=>Ψ
 |.fix _=>Ψ
noncomputable def ixN(n:Nat)(i:Int):Option Nat:=if 0<=i then(if i<n then Φ i.toNat else Ψ) else if -(n:Int)<=i then Φ (i+n).toNat else Ψ
noncomputable def atI{a:Type}(xs:List a)(i:Int):Option a:=(ixN xs.length i).bind λj=>xs[j]?
noncomputable def sIx(n d:Nat):Option Int->Nat
 |none=>d|some i=>if i<0 then(i+n).toNat else min i.toNat n
noncomputable def cut{a:Type}(xs:List a)(lo b:Option Int):List a:=(xs.drop (sIx xs.length 0 lo)).take (sIx xs.length xs.length b-sIx xs.length 0 lo)
noncomputable def zeV:D->Option Int
 |.int i=>Φ i|_=>Ψ
noncomputable def zbJ(m:Bool)(d:D):Option (Option Int):=if m then(match d with|.int i=>Φ (Φ i)|_=>Ψ) else Φ Ψ
noncomputable def zjv(i j:Int):Bool:=decide (-(2^64)<i/\i<2^64)||decide (-(2^64)<j/\j<2^64)
noncomputable def binI(S:St)(op:Operator)(i j:Int):Out D:=match op with|.Add=>.ok (.int (i+j)) S|.Sub=>.ok (.int (i-j)) S|.Mult=>if zjv i j then .ok (.int (i*j)) S else .bad|.FloorDiv=>if 0<j/\j<1073741824 then .ok (.int (i/j)) S else .bad|.Mod=>if 0<j then .ok (.int (i%j)) S else .bad|.Pow=>if 0<=j/\j<=1000000/\-18446744073709551616<i/\i<18446744073709551616 then .ok (.int (i^j.toNat)) S else .bad|_=>.bad
noncomputable def binD(S:St)(op:Operator)(x y:D):Out D:=match x,y with|.int i,.int j=>binI S op i j|.tup c,.tup d=>(match op with|.Add=>if c.length+d.length<=16777216 then .ok (.tup (c++d)) S else .bad|_=>.bad)|.ref a,.ref b=>(match op,S.get a,S.get b with|.Add,Φ (.lst c),Φ (.lst d)=>lay S (c++d)|_,_,_=>.bad)|_,_=>.bad
noncomputable def eqD(S:St)(x y:D):Option Bool:=(pd S 60 x).bind λa=>(pd S 60 y).map λb=>PyData.eqv a b
noncomputable def inD(S:St)(x:D)(ys:List D):Option Bool:=(ys.mapM λz=>eqD S z x).map λa=>a.any id
noncomputable def lexLt:List Int->List Int->Bool
 | [],[]=>Δ| [],_::_=>Γ|_::_,[]=>Δ|a::c,b::d=>if a=b then lexLt c d else decide (a<b)
noncomputable def zaG(a:List D):Option (List Int):=a.mapM zeV
noncomputable def cmpI(op:CmpOp)(i j:Int):Option Bool:=match op with|.Eq=>Φ (decide (i=j))|.NotEq=>Φ (!decide (i=j))|.Lt=>Φ (decide (i<j))|.LtE=>Φ (decide (i<=j))|.Gt=>Φ (decide (j<i))|.GtE=>Φ (decide (j<=i))|_=>Ψ
noncomputable def zoe:D->Bool|.non=>Γ|_=>Δ
noncomputable def zl2:D->Option (Option Int)
 |.non=>Φ Ψ|.int i=>Φ (Φ i)|_=>Ψ
noncomputable def key3:D->Option K3
 |.tup [.int a,.tup c,.int b]=>(zaG c).map λp=>(a,p,b)|_=>Ψ
noncomputable def d3K(S:St):D->Option (List (K3×D))
 |.ref l=>(match S.get l with|some (.d3 a)=>Φ a|_=>Ψ)|_=>Ψ
noncomputable def zbd(a:List (K3×D))(k:K3):Option D:=(a.find? λb=>decide (b.1=k)).map (·.2)
noncomputable def zkt(S:St)(x y:D):Option (Option D):=(d3K S x).bind λa=>(key3 y).map λk=>zbd a k
noncomputable def zbH(a:List (K3×D))(k:K3)(v:D):List (K3×D):=if k∈a.map (·.1) then a.map (λx=>if x.1=k then(x.1,v) else x) else a++[(k,v)]
noncomputable def lpOf:D->Option KP
 |.tup [.tup a,.int b,.int w]=>(zaG a).map λp=>(p,b,w)|_=>Ψ
noncomputable def lpD(k:KP):D:=.tup [.tup (k.1.map .int),.int k.2.1,.int k.2.2]
noncomputable def zjF(S:St)(x:D):Option (List KP):=match x with|.ref p=>(match S.get p with|some (.lst a)=>a.mapM lpOf|_=>Ψ)|_=>Ψ
noncomputable def zfJ(S:St)(x y:D):Option Bool:=match d3K S y with|some a=>(key3 x).map λk=>decide (k∈a.map (·.1))|none=>(zct S y).bind λb=>inD S x b
noncomputable def cmpO(S:St)(op:CmpOp)(x y:D):Option Bool:=match op with|.Eq=>eqD S x y|.NotEq=>(eqD S x y).map (!·)|.Is=>(match y with|.non=>Φ (zoe x)|.bl b=>(match x with|.bl a=>Φ (a==b)|_=>Ψ)|_=>Ψ)|.IsNot=>(match y with|.non=>Φ (!zoe x)|_=>Ψ)|.In=>zfJ S x y|.NotIn=>(zfJ S x y).map (!·)|.Lt=>(match x,y with|.tup c,.tup d=>(zaG c).bind λa=>(zaG d).map λb=>lexLt a b|_,_=>Ψ)|_=>Ψ
noncomputable def cmpD(S:St)(op:CmpOp)(x y:D):Option Bool:=match x,y with|.int i,.int j=>cmpI op i j|_,_=>cmpO S op x y
inductive Bi where
 |len
 |abs
 |max2
 |min2
 |isin (t:String)
noncomputable def zbs(a:List D):Option (List (Option Int)):=a.mapM zl2
inductive Mt where
 |append
 |popAt
 |count
noncomputable def bi(S:St):Bi->List D->Out D
 |.len,[x]=>(match x with
  |.tup b=>.ok (.int b.length) S|.fix b=>.ok (.int b.length) S|.ref l=>(match S.get l with|some (.lst b)=>.ok (.int b.length) S|_=>.bad)|_=>.bad)
 |.abs,[.int i]=>.ok (.int (if i<0 then -i else i)) S|.max2,[.int i,.int j]=>.ok (.int (if j>i then j else i)) S|.min2,[.int i,.int j]=>.ok (.int (if j<i then j else i)) S|.isin t,[x]=>(match tyOf S x with|some a=>.ok (.bl (a==t||(a=="bool"&&t=="int"))) S|none=>.bad)|_,_=>.bad
noncomputable def isL(S:St):D->Bool
 |.ref l=>(match S.get l with|some (.lst _)=>Γ|_=>Δ)|_=>Δ
noncomputable def mt(S:St):Mt->D->List D->Out D
 |.append,.ref l,[y]=>(match S.get l with|some (.lst a)=>wr S l (a++[y]) .non|_=>.bad)
 |.popAt,.ref l,[.int i]=>(match S.get l with
  |some (.lst a)=>if 0<=i then(match a[i.toNat]? with|some y=>wr S l (a.eraseIdx i.toNat) y|none=>.bad) else .bad|_=>.bad)
 |.count,.ref l,[.int i]=>(match S.get l with
  |some (.lst a)=>(match zbs a with|some os=>.ok (.int (os.count (Φ i):Nat)) S|none=>.bad)|_=>.bad)
 |.count,.ref l,[.non]=>(match S.get l with
  |some (.lst a)=>(match zbs a with|some os=>.ok (.int (os.count Ψ:Nat)) S|none=>.bad)|_=>.bad)
 |_,_,_=>.bad
noncomputable def dPut(S:St)(x y v:D):Option St:=match x with
 |.ref l=>(match S.get l with
  |some (.d3 a)=>(key3 y).bind λk=>if a.length<16777216 then S.put l (.d3 (zbH a k v)) else Ψ|some (.lst b)=>(zeV y).bind λi=>(ixN b.length i).bind λj=>S.put l (.lst (b.set j v))|_=>Ψ)
 |_=>Ψ
noncomputable def zd5(S:St):D->Option (Nat×List (Str×D))
 |.ref l=>(match S.get l with|some (.ins c a)=>Φ (c,a)|_=>Ψ)|_=>Ψ
noncomputable def zje(f:Str)(v:D):List (Str×D)->List (Str×D)
 | []=>[(f,v)]|(g,x)::r=>if g=f then(g,v)::r else(g,x)::zje f v r
noncomputable def zbF(S:St)(x:D)(f:Str)(v:D):Option St:=match x with|.ref l=>(match S.get l with|some (.ins c a)=>if a.length<1000 then S.put l (.ins c (zje f v a)) else Ψ|_=>Ψ)|_=>Ψ
noncomputable def zmx:D->Bool|.non=>Γ|_=>Δ
noncomputable def stpI(n:Nat)(k:Int):List Nat:=PySem.sliceRange (if k>0 then 0 else(n:Int)-1) (if k>0 then(n:Int) else -1) k
noncomputable def stp{a:Type}(xs:List a)(k:Int):List a:=(stpI xs.length k).filterMap (xs[·]?)
mutual
inductive CE where
 |loc (i:Nat)
 |con (d:D)
 |tst (a:CE)
 |bin (op:Operator) (a b:CE)
 |neg (a:CE)
 |nt (a:CE)
 |cmp (op:CmpOp) (a b:CE)
 |cmp2 (op op':CmpOp) (a b c:CE)
 |and (a b:CE)
 |or (a b:CE)
 |ite (c a b:CE)
 |tup (es:CEs)
 |lst (es:CEs)
 |dnew3
 |dget3 (a b c:CE)
 |ix (a b:CE)
 |fld (a:CE) (f:Str)
 |mk (c f:Nat) (x:Str) (j:Nat) (es:CEs)
 |meth (m:Str) (tb:List (Nat×Nat)) (o:CE) (es:CEs)
 |sl (a:CE) (ml mh:Bool) (lo hi:CE)
 |slS (a b:CE)
 |call (f j:Nat) (es:CEs)
 |bi (b:Bi) (es:CEs)
 |mt (m:Mt) (o:CE) (es:CEs)
 |mkL (l:CL)
 |mkT (l:CL)
 |all (l:CL)
 |ext (a:CE) (l:CL)
 |lenset (l:CL)
 |sset (a:CE)
 |ssetP (a:CE)
inductive CEs where
 |nil
 |cons (e:CE) (r:CEs)
inductive CL where
 |val (e:CE)
 |rng1 (a:CE)
 |rng2 (a b:CE)
 |enum (a:CE)
 |comp (nt:Nat) (js:List Nat) (g:List Nat) (it:CL) (c:CE) (e:CE)
end
inductive CS where
 |nil
 |stop
 |asg (i:Nat) (e:CE) (r:CS)
 |asgT (g:List Nat) (e:CE) (r:CS)
 |setIx (a b e:CE) (r:CS)
 |setF (a:CE) (f:Str) (e:CE) (r:CS)
 |ifS (c:CE) (t u:CS) (r:CS)
 |forS (g:List Nat) (l:CL) (b:CS) (r:CS)
 |ret (e:CE) (r:CS)
 |expr (e:CE) (r:CS)
abbrev Ev:=List (Option D)
noncomputable def zez:List Nat->List D->Ev->Ev
 |i::b,d::c,a=>zez b c (a.set i (Φ d))|_,_,a=>a
noncomputable def asgG(g:List Nat)(x:D)(δ:Ev):Option Ev:=match g with| [i]=>Φ (δ.set i (Φ x))|is=>(match x with|.tup a=>if a.length=is.length then Φ (zez is a δ) else Ψ|_=>Ψ)
noncomputable def zcx(x y:D):D:=.tup [x,y]
noncomputable def zdM(S:St):D->Option (List D×List Nat)
 |.ref l=>(match S.get l with|some (.lst a)=>Φ (a.mapIdx λi d=>zcx (.int i) d,[l])|_=>Ψ)|.tup a=>Φ (a.mapIdx λi d=>zcx (.int i) d,[])|_=>Ψ
abbrev CF:=Nat->List D->St->Out D
noncomputable def zcN(S:St)(d:D)(T:St):Out D:=
 if flat S.len d then .ok d S else
 let a:Out D:=.ok d ⟨S.frz,S.new++T.new,S.lk⟩
 match d with
  |.ref l=>(match T.get l with
   |some (.lst b)=>if flats S.len b then .ok (.ref S.len) (S.push (.lst b)) else a|_=>a)
  |_=>a
noncomputable def zjP(S:St)(d:D)(T:St):Out (List D):=match d with|.ref l=>if l<S.len then .bad else(match T.get l with|some (.lst a)=>if flats S.len a then .ok a S else .bad|_=>.bad)|_=>.bad
@[irreducible]noncomputable def app(cf:CF)(f:Nat)(ds:List D)(S:St):Out D:=(cf f ds S.enter).bind λd T=>zcN S d T
@[irreducible]noncomputable def appL(cf:CF)(f:Nat)(ds:List D)(S:St):Out (List D):=(cf f ds S.enter).bind λd T=>zjP S d T
@[irreducible]noncomputable def appW(cf:CF)(f:Nat)(ds:List D)(S:St):Out D:=cf f ds S
noncomputable def csl(a:Nat)(b:List Nat)(δ:Ev):Ev:=List.replicate a Ψ++b.map λj=>(δ[j]?).join
noncomputable def zax(g:List Nat)(c:Ev->St->Out Bool)(e:Ev->St->Out D):List D->Ev->St->Out (List D)
 | [],_,S=>.ok [] S| x::f,i,S=>match asgG g x i with|none=>.bad|some a=>(c a S).bind λb h=>if b then(e a h).bind λd j=>(zax g c e f a j).bind λk l=>.ok (d::k) l else zax g c e f a h
noncomputable def zbg{b:Type}(ls:List Nat)(S:St)(f:St->Out b):Out b:=(f {S with lk:=ls++S.lk}).bind λa c=>.ok a {c with lk:=S.lk}
noncomputable def zev:D->Option Bool
 |.bl b=>Φ b|_=>Ψ
noncomputable def allD(a:List D):Option Bool:=(a.mapM zev).map λb=>b.all id
noncomputable def insZ(x:Int):List Int->List Int
 | []=>[x]|y::l=>if x<=y then x::y::l else y::insZ x l
noncomputable def zeC:List Int->List Int
 | []=>[]|x::l=>insZ x (zeC l)
noncomputable def lstI(S:St)(x:D):Option (List Int):=match x with|.ref p=>(match S.get p with|some (.lst a)=>zaG a|_=>Ψ)|_=>Ψ
noncomputable def dedup(xs:List Int):List Int:=xs.foldl (λa x=>if a.contains x then a else a++[x]) []
section
variable(cf:CF)
mutual
noncomputable def evE(e₀:CE)(δ:Ev)(S:St):Out D:=match e₀ with
 |.loc i=>lift S (δ[i]?).join|.con d=>.ok d S|.tst _=>.bad|.bin op a b=>(evE a δ S).bind λx S1=>(evE b δ S1).bind λy S2=>binD S2 op x y|.neg a=>(evE a δ S).bind λx S1=>match x with|.int i=>.ok (.int (-i)) S1|_=>.bad
 |.nt a=>(evE a δ S).bind λx S1=>match x with|.bl b=>.ok (.bl (!b)) S1|_=>.bad
 |.cmp op a b=>(evE a δ S).bind λx S1=>(evE b δ S1).bind λy S2=>(lift S2 (cmpD S2 op x y)).bind λk S3=>.ok (.bl k) S3|.cmp2 op op' a b c=>(evE a δ S).bind λx S1=>(evE b δ S1).bind λy S2=>(lift S2 (cmpD S2 op x y)).bind λk S3=>if k then(evE c δ S3).bind λz S4=>(lift S4 (cmpD S4 op' y z)).bind λk' S5=>.ok (.bl k') S5 else .ok (.bl Δ) S3|.and a b=>(evE a δ S).bind λx S1=>match x with|.bl k=>if k then evE b δ S1 else .ok (.bl Δ) S1|_=>.bad
 |.or a b=>(evE a δ S).bind λx S1=>match x with|.bl k=>if k then .ok (.bl Γ) S1 else evE b δ S1|_=>.bad
 |.ite c a b=>(evT c δ S).bind λk S1=>if k then evE a δ S1 else evE b δ S1|.tup es=>(evEs es δ S).bind λds S1=>if ds.length<=16777216 then .ok (.tup ds) S1 else .bad|.lst es=>(evEs es δ S).bind λds S1=>lay S1 ds|.dnew3=>.ok (.ref S.len) (S.push (.d3 []))|.dget3 a b c=>(evE a δ S).bind λx S1=>(lift S1 (d3K S1 x)).bind λ_ S2=>(evE b δ S2).bind λy S3=>(evE c δ S3).bind λz S4=>(lift S4 (zkt S4 x y)).bind λo S5=>.ok (o.getD z) S5|.fld a f=>(evE a δ S).bind λx S1=>lift S1 ((zd5 S1 x).bind λp=>p.2.lookup f)|.mk c f _ j es=>(evEs es δ S).bind λds S1=>(appW cf f (.ref S1.len::(ds++List.replicate j .non)) (S1.push (.ins c []))).bind λd S2=>if zmx d then .ok (.ref S1.len) S2 else .bad|.meth m tb o es=>(evE o δ S).bind λx S1=>(lift S1 (zd5 S1 x)).bind λp S1=>(lift S1 (tb.lookup p.1)).bind λf S1=>if(p.2.lookup m).isNone then(evEs es δ S1).bind λds S2=>appW cf f (x::ds) S2 else .bad|.ix a b=>(evE a δ S).bind λx S1=>(evE b δ S1).bind λy S2=>match zct S2 x,y with|some ds,.int i=>lift S2 (atI ds i)|_,_=>.bad
 |.slS a b=>(evE a δ S).bind λx S1=>(evE b δ S1).bind λy S2=>match x,y with
  |.ref p,.int k=>if k=0 then .bad else(match S2.get p with|some (.lst ds)=>lay S2 (stp ds k)|_=>.bad)|.tup ds,.int k=>if k = -1 then .ok (.tup ds.reverse) S2 else .bad|_,_=>.bad
 |.sl a ml mh lo hi=>(evE a δ S).bind λx S1=>(evE lo δ S1).bind λy S2=>(evE hi δ S2).bind λz S3=>match zbJ ml y,zbJ mh z with
  |some l,Φ h=>(match x with
   |.tup ds=>.ok (.tup (cut ds l h)) S3|.fix ds=>lay S3 (cut ds l h)|.ref p=>(match S3.get p with|some (.lst ds)=>lay S3 (cut ds l h)|_=>.bad)|_=>.bad)
  |_,_=>.bad
 |.call f j es=>(evEs es δ S).bind λds S1=>app cf f (ds++List.replicate j .non) S1|.bi b es=>(evEs es δ S).bind λds S1=>R.bi S1 b ds|.mt m o es=>(evE o δ S).bind λx S1=>if isL S1 x then(evEs es δ S1).bind λds S2=>R.mt S2 m x ds else .bad|.mkL l=>(evL l δ S).bind λr S1=>lay S1 r.1|.mkT l=>(evL l δ S).bind λr S1=>if r.1.length<=16777216 then .ok (.tup r.1) S1 else .bad|.all l=>(evL l δ S).bind λr S1=>(lift S1 (allD r.1)).bind λb S2=>.ok (.bl b) S2
 |.ext a l=>(evE a δ S).bind λx S1=>if isL S1 x then(evL l δ S1).bind λr S2=>(match x with
  |.ref p=>(match S2.get p with|some (.lst ds)=>wr S2 p (ds++r.1) .non|_=>.bad)|_=>.bad) else .bad
 |.lenset l=>(evL l δ S).bind λr S1=>(lift S1 (zaG r.1)).bind λis S2=>if is.length<4000 then .ok (.int (dedup is).length) S2 else .bad|.sset a=>(evE a δ S).bind λx S1=>(lift S1 (lstI S1 x)).bind λis S2=>if is.length<64 then lay S2 ((zeC (dedup is)).map .int) else .bad|.ssetP a=>(evE a δ S).bind λx S1=>(lift S1 (zjF S1 x)).bind λks S2=>if ks.length<300 then lay S2 ((zcs ks).map lpD) else .bad
noncomputable def evEs(e₀:CEs)(δ:Ev)(S:St):Out (List D):=match e₀ with|.nil=>.ok [] S|.cons e r=>(evE e δ S).bind λd S1=>(evEs r δ S1).bind λds S2=>.ok (d::ds) S2
noncomputable def evT(e₀:CE)(δ:Ev)(S:St):Out Bool:=match e₀ with|.cmp op a b=>(evE a δ S).bind λx S1=>(evE b δ S1).bind λy S2=>lift S2 (cmpD S2 op x y)|.cmp2 op op' a b c=>(evE a δ S).bind λx S1=>(evE b δ S1).bind λy S2=>(lift S2 (cmpD S2 op x y)).bind λk S3=>if k then(evE c δ S3).bind λz S4=>lift S4 (cmpD S4 op' y z) else .ok Δ S3|.nt a=>(evT a δ S).bind λk S1=>.ok (!k) S1|.and a b=>(evT a δ S).bind λk S1=>if k then evT b δ S1 else .ok Δ S1|.or a b=>(evT a δ S).bind λk S1=>if k then .ok Γ S1 else evT b δ S1|.tst e=>(evE e δ S).bind λx S1=>lift S1 (tru S1 x)|_=>.bad
noncomputable def evL(e₀:CL)(δ:Ev)(S:St):Out (List D×List Nat):=match e₀ with
 |.val e=>(evE e δ S).bind λx S1=>(lift S1 (zct S1 x)).bind λds S2=>.ok (ds,lkOf S2 x) S2|.rng1 a=>(evE a δ S).bind λx S1=>match x with|.int j=>if -(2^62)<=j/\j<2^62 then .ok ((List.range j.toNat).map λ(k:Nat)=>.int k,[]) S1 else .bad|_=>.bad
 |.rng2 a b=>(evE a δ S).bind λx S1=>(evE b δ S1).bind λy S2=>match x,y with
  |.int i,.int j=>if -(2^62)<=i/\i<2^62/\-(2^62)<=j/\j<2^62 then .ok ((List.range (j-i).toNat).map λ(k:Nat)=>.int (i+k),[]) S2 else .bad|_,_=>.bad
 |.enum a=>(evE a δ S).bind λx S1=>lift S1 (zdM S1 x)|.comp n js g it c e=>(evL it δ S).bind λr S1=>(zbg r.2 S1 λS2=>zax g (evT c) (evE e) r.1 (csl n js δ) S2).bind λds S3=>if ds.length<=16777216 then .ok (ds,[]) S3 else .bad
end
inductive Fl where
 |nx (δ:Ev)|rt (d:D)
noncomputable def zbf(g:List Nat)(b:Ev->St->Out Fl):List D->Ev->St->Out Fl
 | [],a,S=>.ok (.nx a) S| x::i,a,S=>match asgG g x a with|none=>.bad| some c=>(b c S).bind λf h=>match f with|.nx e=>zbf g b i e h|.rt d=>.ok (.rt d) h
noncomputable def exS(o:CS)(δ:Ev)(S:St):Out Fl:=match o with
 |.nil=>.ok (.nx δ) S|.stop=>.bad|.asg i e r=>(evE cf e δ S).bind λx h=>exS r (δ.set i (Φ x)) h|.asgT g e r=>(evE cf e δ S).bind λx h=>(lift h (asgG g x δ)).bind λj m=>exS r j m|.setIx a b e r=>(evE cf e δ S).bind λv h=>(evE cf a δ h).bind λx m=>(evE cf b δ m).bind λy n=>match dPut n x y v with|some p=>exS r δ p|none=>.bad
 |.setF a f e r=>(evE cf e δ S).bind λv h=>(evE cf a δ h).bind λx m=>match zbF m x f v with|some n=>exS r δ n|none=>.bad
 |.ifS c t u r=>(evT cf c δ S).bind λk h=>(if k then exS t δ h else exS u δ h).bind λf m=>match f with
  |.nx j=>exS r j m|.rt d=>.ok (.rt d) m
 |.forS g l b r=>(evL cf l δ S).bind λq h=>(zbg q.2 h λm=>zbf g (exS b) q.1 δ m).bind λf n=>match f with
  |.nx j=>exS r j n|.rt d=>.ok (.rt d) n
 |.ret e _=>(evE cf e δ S).bind λx h=>.ok (.rt x) h|.expr e r=>(evE cf e δ S).bind λ_ h=>exS r δ h
end
inductive Prim where
 |tally|way
 |lam
noncomputable def rowD(r:Int×Int):D:=.tup [.int r.1,.int r.2]
noncomputable def talD(os:List (Option Int)):List D:=(zo1 (zen [] os)).map rowD
noncomputable def prm(S:St):Prim->List D->Out D
 |.tally,[.ref l]=>(match S.get l with
  |some (.lst a)=>(match zbs a with
   |some os=>if(zen [] os).length<64/\os.length<=16777216 then .ok (.ref S.len) (S.push (.lst (talD os))) else .bad|none=>.bad)
  |_=>.bad)
 |.way,[.str x]=>if x=("oral":Str)\/x=("kings":Str) then .ok (.str x) S else .bad|_,_=>.bad
structure Fn where
 np:Nat
 nn:Nat
 body:CS
 prim:Option Prim
noncomputable def zaP(F:Fn)(a:List D):Ev:=a.map Φ++List.replicate (F.nn-F.np) Ψ
noncomputable def callF(P:List Fn):Nat->CF
 |0,_,_,_=>.bad
 |n+1,f,a,S=>match P[f]? with
  | some F=>if a.length=F.np then(match F.prim with
     |some .lam=>if 3<=n then(exS (callF P n) F.body (zaP F a) S).bind λr T=>(match r with
      |.nx _=>.ok .non T|.rt d=>.ok d T) else .bad
     |some p=>if 3<=n then prm S p a else .bad| none=>(exS (callF P n) F.body (zaP F a) S).bind λr T=>match r with|.nx _=>.ok .non T|.rt d=>.ok d T)
    else .bad
  |none=>.bad
@[simp]theorem zaC{α β:Type}(a:α)(S:St)(f:α->St->Out β):(Out.ok a S).bind f=f a S:=rfl
@[simp]theorem zrl{α β:Type}(f:α->St->Out β):(Out.bad:Out α).bind f=.bad:=rfl
@[simp]theorem zrk{α β:Type}(d:D)(S:St)(f:α->St->Out β):(Out.err d S:Out α).bind f=.err d S:=rfl
@[simp]theorem zjM{α:Type}(S:St)(a:α):lift S (Φ a)=.ok a S:=rfl
theorem zaB(S:St):S.enter.get=S.get:=by funext l;simp only[St.get,St.enter,length_append,List.getElem?_append];by_cases h:l<S.frz.length;simp[h,lt_of_lt_of_le h (Nat.le_add_right _ _)];simp only[h,if_false];split;rfl;simp only[List.getElem?_nil];exact(ϛ (by lia)).symm
@[simp]theorem zkj(S:St):S.enter.frz=S.frz++S.new:=rfl
@[simp]theorem zqY(S:St):S.enter.new=[]:=rfl
@[simp]theorem zrj(S:St):S.enter.lk=[]:=rfl
@[simp]theorem zki(S:St):S.enter.len=S.len:=by simp[St.len]
theorem zn7(S:St):(S.frz++S.new).length=S.len:=by simp[St.len]
theorem get_lt{S:St}(h:S.get l=Φ o):l<S.len:=by unfold St.get at h;unfold St.len;split at h;lia;have:=(Β.mp h).1;lia
theorem zeY{S:St}(h:S.get l=Φ o)(a)(lk):(St.mk (S.frz++S.new) a lk).get l=Φ o:=by
 have b:=get_lt h;rw[<-zaB]at h;unfold St.get at h⊢;have e:l<(S.frz++S.new).length:=by rw[zn7];exact b
 simp only[zkj,e]at h⊢;exact h
theorem zcl(F a)(lk)(i):(St.mk F a lk).get (F.length+i)=a[i]?:=by
 have:¬F.length+i<F.length:=by lia
 simp[St.get,this]
theorem zlP(F a)(lk):(St.mk F a lk).get F.length=a[0]?:=zcl F a lk 0
@[simp]theorem zrg(n:Nat):flat n .non=Γ:=by simp[flat]
@[simp]theorem zsd(n:Nat)(b:Bool):flat n (.bl b)=Γ:=by simp[flat]
@[simp]theorem zrh(n:Nat)(i:Int):flat n (.int i)=Γ:=by simp[flat]
@[simp]theorem zrf(n:Nat)(x:Str):flat n (.str x)=Γ:=by simp[flat]
@[simp]theorem zhr(n:Nat)(ds:List D):flat n (.tup ds)=flats n ds:=by simp[flat]
@[simp]theorem zri(n:Nat)(ds:List D):flat n (.fix ds)=flats n ds:=by simp[flat]
@[simp]theorem zqV(n:Nat):flats n []=Γ:=by simp[flats]
@[simp]theorem zel(n:Nat)(d:D)(ds:List D):flats n (d::ds)=(flat n d&&flats n ds):=by simp[flats]
@[simp]theorem zfM(n:Nat):∀ds es:List D,flats n (ds++es)=(flats n ds&&flats n es)
  | [],es=>by simp|d::ds,es=>by simp[zfM n ds es,Bool.and_assoc]
theorem zaY(n):∀ds:List D,flats n ds=Γ↔∀d∈ds,flat n d=Γ
 | []=>by simp|d::ds=>by simp[zaY n ds]
@[simp]theorem zoJ(n:Nat)(ns:List Int):flats n (ns.map D.int)=Γ:=by rw[zaY];simp
@[simp]theorem zif(S:St)(d:D)(T:St)(h:flat S.len d=Γ):zcN S d T=.ok d S:=by simp[zcN,h]
def W{b:Type}(o:Out b)(Q:b->St->Prop):Prop:=match o with|.ok a S=>Q a S|_=>False
@[simp]theorem W_ok{α:Type}(a:α)(S:St)(Q:α->St->Prop):W (.ok a S) Q=Q a S:=rfl
@[simp]theorem zsw{α:Type}(Q:α->St->Prop):W (.bad:Out α) Q=False:=rfl
@[simp]theorem zsv{α:Type}(d:D)(S:St)(Q:α->St->Prop):W (.err d S:Out α) Q=False:=rfl
@[simp]theorem zab{α β:Type}(o:Out α)(f:α->St->Out β)(Q:β->St->Prop):W (o.bind f) Q=W o λa S=>W (f a S) Q:=by cases o<;>rfl
theorem W.mono(h:W o Q)(b:∀a S,Q a S->c a S):W o c:=by cases o with|ok a S=>exact b a S h|err d S=>exact h|bad=>exact h
theorem W.eq(h:W o λa T=>a=d/\T=S):o=.ok d S:=by cases o with|ok a T=>obtain⟨rfl,rfl⟩:=h;rfl|err d S=>exact False.elim h|bad=>exact False.elim h
theorem W.of(h:o=.ok d S)(q:Q d S):W o Q:=by rw[h];exact q
theorem W.iff:W o Q↔∃a S,o=.ok a S/\Q a S:=by cases o with|ok a S=>exact⟨λh=>⟨a,S,rfl,h⟩,λ⟨_,_,e,h⟩=>by cases e;exact h⟩|err d S=>exact⟨λh=>h.elim,λk=>(by obtain⟨_,_,e,_⟩:=k;cases e)⟩|bad=>exact⟨λh=>h.elim,λz=>(by obtain⟨_,_,e,_⟩:=z;cases e)⟩
noncomputable def fin(S:St)(r:Fl)(T:St):Out D:=match r with|.nx _=>zcN S .non T|.rt d=>zcN S d T
@[simp]theorem zhs(S T:St)(d:D):fin S (.rt d) T=zcN S d T:=rfl
@[simp]theorem zsu(S T:St)(δ:Ev):fin S (.nx δ) T=.ok .non S:=by simp[fin]
theorem zf9(h:P[f]?=Φ F)(b:a.length=F.np)(c:F.prim=Ψ:=by rfl):
  app (callF P (n+1)) f a S=(exS (callF P n) F.body (zaP F a) S.enter).bind λr T=>fin S r T:=by
 simp only[app,callF,h,b,c,if_true];generalize exS (callF P n) F.body (zaP F a) S.enter=o;cases o with|ok r T=>cases r<;>rfl|err d S=>rfl|bad=>rfl
noncomputable def finL(S:St)(r:Fl)(T:St):Out (List D):=match r with|.nx _=>.bad|.rt d=>zjP S d T
@[simp]theorem zse(S T:St)(d:D):finL S (.rt d) T=zjP S d T:=rfl
theorem zal(I:Nat->Ev->St->Prop)(j:D->St->Prop):∀(xs:List D)(k:Nat)(δ:Ev)(S:St),I k δ S->
  (∀i x δ S,xs[i]?=Φ x->I (k+i) δ S->∃a,asgG g x δ=Φ a/\W (b a S) λf S'=>match f with|.nx c=>I (k+i+1) c S'|.rt d=>j d S')->
  W (zbf g b xs δ S) λf S'=>match f with|.nx a=>I (k+xs.length) a S'|.rt d=>j d S'
 | [],k,δ,S,h,_=>by simpa[zbf]using h| x::xs,k,δ,S,h,step=>by obtain⟨a,e,w⟩:=step 0 x δ S rfl h;simp only[zbf,e,zab];refine w.mono λf n l=>?_;cases f with|rt d=>exact l| nx c=>have m:=zal I j xs (k+1) c n l (λi y δ S o p=>by have:=step (i+1) y δ S (by simpa using o) (by rw[show k+(i+1)=k+1+i by lia];exact p);rw[show k+(i+1)+1=k+1+i+1 by lia]at this;exact this);rw[show k+1+xs.length=k+(x::xs).length by simp;lia]at m;exact m
theorem za9(p)(f):∀(xs:List D)(o:Option D),
  (∀x∈xs,c (Φ x::rest) S=.ok (p x) S)->(∀x∈xs,p x=Γ->e (Φ x::rest) S=.ok (f x) S)->zax [0] c e xs (o::rest) S=.ok ((xs.filter p).map f) S
 | [],o,_,_=>rfl| x::xs,o,hc,he=>by have ih:=za9 p f xs (Φ x) (λy hy=>hc y (Ν _ hy)) (λy hy=>he y (Ν _ hy));simp only[zax,asgG,List.set_cons_zero,hc x Ρ,zaC];cases hp:p x with|false=>simp[ih,hp]|true=>simp[ih,hp,he x Ρ hp]
theorem zcJ(f)(xs)(o)(a:∀x∈xs,c (Φ x::rest) S=.ok Γ S)(b:∀x∈xs,e (Φ x::rest) S=.ok (f x) S):zax [0] c e xs (o::rest) S=.ok (xs.map f) S:=by
 have:=za9 (λ_=>Γ) f xs o a (λx d _=>b x d);rw[List.filter_eq_self.mpr (λ_ _=>rfl)]at this;exact this
@[simp]theorem zoI{α:Type}(S:St)(f:St->Out α):zbg [] S f=(f S).bind λa S'=>.ok a {S' with lk:=S.lk}:=rfl
theorem W.b(h:W (o.bind f) Q):W o λa S=>W (f a S) Q:=Eq.mp (zab o f Q) h
def wIf(c:Bool)(P Q:Prop):Prop:=match c with|true=>P|false=>Q
@[irreducible]def wOpt{α:Type}(o:Option α)(k:α->Prop):Prop:=match o with|some a=>k a|none=>False
@[irreducible]def zaR(p k:Prop):Prop:=p/\k
@[irreducible]def wOut{α:Type}(o:Out α)(Q:α->St->Prop):Prop:=W o Q
theorem zhF(h:c=Γ)(k:P):wIf c P Q:=by subst h;exact k
theorem ziA(h:c=Δ)(k:Q):wIf c P Q:=by subst h;exact k
theorem zkL(a:c=Γ->P)(b:c=Δ->Q):wIf c P Q:=by cases c with|true=>exact zhF rfl (a rfl)|false=>exact ziA rfl (b rfl)
theorem zcg[Decidable p](a:p->P)(b:¬p->Q):wIf (decide p) P Q:=zkL (λh=>a (of_decide_eq_true h)) (λh=>b (of_decide_eq_false h))
theorem wOpt_of(h:o=Φ a)(q:k a):wOpt o k:=by unfold wOpt;rw[h];exact q
theorem wNeed_of(h:p)(q:k):zaR p k:=by unfold zaR;exact⟨h,q⟩
theorem wOut_of(h:o=.ok a S)(q:Q a S):wOut o Q:=by unfold wOut;rw[h];exact q
theorem zb6(h:W o Q):wOut o Q:=by unfold wOut;exact h
theorem zoQ:wOpt o (λa=>Q a S)=W (lift S o) Q:=by unfold wOpt;cases o<;>rfl
theorem zaL(h:wOpt o k):∃a,o=Φ a/\k a:=by unfold wOpt at h;cases o with|none=>exact h.elim|some a=>exact⟨a,rfl,h⟩
theorem zbC[Decidable p](h:zaR p k)(q:k->W o Q):W (if p then o else .bad) Q:=by unfold zaR at h;rw[if_pos h.1];exact q h.2
abbrev wGet(S:St)(l:Nat)(k:MO->Prop):Prop:=wOpt (S.get l) k
abbrev wPut(S:St)(l:Nat)(o:MO)(k:St->Prop):Prop:=wOpt (S.put l o) k
theorem zbU{S:St}(h:S.get l=Φ o)(q:k o):wGet (St.mk (S.frz++S.new) a lk) l k:=wOpt_of (zeY h a lk) q
theorem zaW(h:a[i]?=Φ o)(q:k o):wGet (St.mk F a lk) (F.length+i) k:=wOpt_of ((zcl F a lk i).trans h) q
theorem znA(h:lk.contains (F.length+i)=Δ):(St.mk F nw lk).put (F.length+i) o=Φ ⟨F,nw.set i o,lk⟩:=by
 have h1:¬F.length+i<F.length:=by lia
 simp only[St.put,h1,if_false,h,Υ,Nat.add_sub_cancel_left]
theorem zc2(h:lk.contains (F.length+i)=Δ)(q:k ⟨F,a.set i o,lk⟩):wPut (St.mk F a lk) (F.length+i) o k:=wOpt_of (znA h) q
def wLay(S:St)(a:List D)(Q:D->St->Prop):Prop:=zaR (a.length<=16777216) (Q (.ref S.len) (S.push (.lst a)))
theorem zfc(h:wLay S a Q):W (lay S a) Q:=zbC h id
def wWr(S:St)(l:Nat)(a:List D)(d:D)(Q:D->St->Prop):Prop:=zaR (a.length<=16777216) (wPut S l (.lst a) λb=>Q d b)
theorem zmR(h:wWr S l a d Q):W (wr S l a d) Q:=by refine zbC h λh=>?_;obtain⟨_,e,h⟩:=zaL h;rw[e];exact h
def zoS(S:St)(op:Operator)(i j:Int)(Q:D->St->Prop):Prop:=match op with|.Add=>Q (.int (i+j)) S|.Sub=>Q (.int (i-j)) S|.Mult=>zaR (zjv i j=Γ) (Q (.int (i*j)) S)|.FloorDiv=>zaR (0<j/\j<1073741824) (Q (.int (i/j)) S)|.Mod=>zaR (0<j) (Q (.int (i%j)) S)|.Pow=>zaR (0<=j/\j<=1000000/\-18446744073709551616<i/\i<18446744073709551616) (Q (.int (i^j.toNat)) S)|_=>False
def wBin(S:St)(op:Operator)(x y:D)(Q:D->St->Prop):Prop:=match x,y with|.int i,.int j=>zoS S op i j Q|.tup c,.tup d=>(match op with|.Add=>zaR (c.length+d.length<=16777216) (Q (.tup (c++d)) S)|_=>False)|.ref a,.ref b=>(match op with|.Add=>wGet S a λo=>wGet S b λu=>(match o,u with|.lst c,.lst d=>wLay S (c++d) Q|_,_=>False)|_=>False)|_,_=>False
theorem zoR(h:wBin S op x y Q):W (binD S op x y) Q:=by
 unfold wBin at h;unfold binD;split at h
 . unfold zoS zaR at h;unfold binI;split at h<;>(try dsimp only)<;>first|exact h|(rw[if_pos h.1];exact h.2)|exact False.elim h
 split at h;exact zbC h id;exact h.elim;split at h
 . obtain⟨o,a,h⟩:=zaL h;obtain⟨u,b,h⟩:=zaL h;simp only[a,b];cases o<;>cases u<;>first|exact zfc h|exact h.elim
 exact h.elim;exact h.elim
def wCmp(S:St)(op:CmpOp)(x y:D)(Q:Bool->Prop):Prop:=match x,y with|.int i,.int j=>(match cmpI op i j with|some k=>Q k|none=>False)| _,_=>(match op with|.Is=>(match cmpO S .Is x y with|some k=>Q k|none=>False)|.IsNot=>(match cmpO S .IsNot x y with|some k=>Q k|none=>False)|_=>wOpt (cmpO S op x y) Q)
theorem zoC(h:∀i j,x=.int i->y=.int j->False):cmpD S op x y=cmpO S op x y:=by unfold cmpD;split;rename_i i j;exact(h i j rfl rfl).elim;rfl
theorem ziD(h:wCmp S op x y Q):∃k,cmpD S op x y=Φ k/\Q k:=by
 have fin:∀o:Option Bool,(match o with|some k=>Q k|none=>False)->∃k,o=Φ k/\Q k:=λo q=>by cases o with|none=>exact q.elim|some k=>exact⟨k,rfl,q⟩
 unfold wCmp at h;split at h;exact fin _ h;rename_i a;rw[zoC a];split at h;exact fin _ h;exact fin _ h;unfold wOpt at h;cases e:cmpO S op x y with|none=>rw[e]at h;exact h.elim|some k=>rw[e]at h;exact⟨k,rfl,h⟩
theorem zl7(h:wCmp S op x y λk=>Q k S):W (lift S (cmpD S op x y)) Q:=by obtain⟨k,e,q⟩:=ziD h;rw[e];exact q
def wBi(S:St)(b:Bi)(c:List D)(Q:D->St->Prop):Prop:=match b,c with
 |.len,[x]=>(match x with
  |.tup c=>Q (.int c.length) S|.fix c=>Q (.int c.length) S|.ref l=>wGet S l λo=>(match o with|.lst c=>Q (.int c.length) S|_=>False)|_=>False)
 |.abs,[.int i]=>Q (.int (if i<0 then -i else i)) S|.max2,[.int i,.int j]=>Q (.int (if j>i then j else i)) S|.min2,[.int i,.int j]=>Q (.int (if j<i then j else i)) S|.isin t,[x]=>wOpt (tyOf S x) λa=>Q (.bl (a==t||(a=="bool"&&t=="int"))) S|_,_=>False
theorem zro(h:wBi S b a Q):W (bi S b a) Q:=by
 unfold wBi at h;split at h
 all_goals
  repeat' first
  |exact h
  |exact h.elim
  |split at h
  |(obtain⟨o,e,h⟩:=zaL h;simp only[bi,e])
def wIsL(S:St)(x:D)(P:Prop):Prop:=match x with|.ref l=>wGet S l λo=>(match o with|.lst _=>P|_=>False)|_=>False
theorem ziz(h:wIsL S x P):isL S x=Γ/\P:=by
 unfold wIsL at h;split at h
 . obtain⟨o,e,h⟩:=zaL h;cases o<;>first|exact⟨by simp only[isL,e],h⟩|exact h.elim
 exact h.elim
def wMt(S:St)(m:Mt)(x:D)(a:List D)(Q:D->St->Prop):Prop:=match m,x,a with
 |.append,.ref l,[y]=>wGet S l λo=>(match o with|.lst a=>wWr S l (a++[y]) .non Q|_=>False)
 |.popAt,.ref l,[.int i]=>wGet S l λo=>(match o with
  |.lst a=>zaR (0<=i) (wOpt a[i.toNat]? λy=>wWr S l (a.eraseIdx i.toNat) y Q)|_=>False)
 |.count,.ref l,[.int i]=>wGet S l λo=>(match o with
  |.lst a=>wOpt (zbs a) λos=>Q (.int (os.count (Φ i):Nat)) S|_=>False)
 |.count,.ref l,[.non]=>wGet S l λo=>(match o with
  |.lst a=>wOpt (zbs a) λos=>Q (.int (os.count Ψ:Nat)) S|_=>False)
 |_,_,_=>False
theorem zrm(h:wMt S m x a Q):W (mt S m x a) Q:=by
 unfold wMt at h;split at h
 all_goals
  repeat' first
  |exact h.elim
  |exact h
  |exact zmR h
  |refine zbC h λh=>?_
  |(obtain⟨o,e,h⟩:=zaL h;simp only[mt,e])
  |split at h
def wSeq(S:St)(x:D)(k:List D->Prop):Prop:=match x with|.tup a=>k a|.fix a=>k a|.ref l=>wGet S l λo=>(match o with|.lst a=>k a|_=>False)|_=>False
theorem ziw(h:wSeq S x k):∃a,zct S x=Φ a/\k a:=by
 unfold wSeq at h;split at h;exact⟨_,rfl,h⟩;exact⟨_,rfl,h⟩
 . obtain⟨o,e,h⟩:=zaL h;cases o<;>first|exact⟨_,by simp only[zct,e],h⟩|exact h.elim
 exact h.elim
def wTru(S:St)(x:D)(Q:Bool->Prop):Prop:=match x with|.bl b=>Q b|.non=>Q Δ|.int i=>Q (i != 0)|.tup a=>Q (!a.isEmpty)|.ref l=>wGet S l λo=>(match o with|.lst a=>Q (!a.isEmpty)|_=>False)|_=>False
theorem zoO(h:wTru S x λk=>Q k S):W (lift S (tru S x)) Q:=by
 unfold wTru at h;split at h
 all_goals
  repeat' first
  |exact h
  |exact h.elim
  |split at h
  |(obtain⟨o,e,h⟩:=zaL h;simp only[tru,e])
@[irreducible]def zhE{α:Type}(ls:List Nat)(S:St)(f:St->Out α)(Q:α->St->Prop):Prop:=W (zbg ls S f) Q
theorem ziy(h:zhE ls S f Q):W (zbg ls S f) Q:=by unfold zhE at h;exact h
theorem zam(h:W (f {S with lk:=ls++S.lk}) λa T=>Q a {T with lk:=S.lk}):zhE ls S f Q:=by unfold zhE zbg;rw[zab];exact h
section
variable(cf:CF)
mutual
def wE(e₀:CE)(δ:Ev)(S:St)(Q:(D->St->Prop)):Prop:=match e₀ with
 |.loc i=>(match (δ[i]?).join with|some d=>Q d S|none=>False)|.con d=>Q d S|.tst _=>False|.bin op a b=>wE a δ S λx S1=>wE b δ S1 λy S2=>wBin S2 op x y Q|.neg a=>wE a δ S λx S1=>(match x with|.int i=>Q (.int (-i)) S1|_=>False)|.nt a=>wE a δ S λx S1=>(match x with|.bl b=>Q (.bl (!b)) S1|_=>False)|.cmp op a b=>wE a δ S λx S1=>wE b δ S1 λy S2=>wCmp S2 op x y λk=>Q (.bl k) S2|.cmp2 op op' a b c=>wE a δ S λx S1=>wE b δ S1 λy S2=>wCmp S2 op x y λk=>wIf k (wE c δ S2 λz S4=>wCmp S4 op' y z λk'=>Q (.bl k') S4) (Q (.bl Δ) S2)|.and a b=>wE a δ S λx S1=>(match x with|.bl k=>wIf k (wE b δ S1 Q) (Q (.bl Δ) S1)|_=>False)|.or a b=>wE a δ S λx S1=>(match x with|.bl k=>wIf k (Q (.bl Γ) S1) (wE b δ S1 Q)|_=>False)|.ite c a b=>wT c δ S λk S1=>wIf k (wE a δ S1 Q) (wE b δ S1 Q)|.tup es=>wEs es δ S λds S1=>zaR (ds.length<=16777216) (Q (.tup ds) S1)|.lst es=>wEs es δ S λds S1=>wLay S1 ds Q|.dnew3=>Q (.ref S.len) (S.push (.d3 []))|.dget3 a b c=>wE a δ S λx S1=>wOpt (d3K S1 x) λ_=>wE b δ S1 λy S2=>wE c δ S2 λz S3=>wOpt (zkt S3 x y) λo=>Q (o.getD z) S3|.fld a f=>wE a δ S λx S1=>wOpt ((zd5 S1 x).bind λp=>p.2.lookup f) λv=>Q v S1|.mk c f _ j es=>wEs es δ S λds S1=>wOut (appW cf f (.ref S1.len::(ds++List.replicate j .non)) (S1.push (.ins c []))) λd S2=>zaR (zmx d=Γ) (Q (.ref S1.len) S2)|.meth m tb o es=>wE o δ S λx S1=>wOpt (zd5 S1 x) λp=>wOpt (tb.lookup p.1) λf=>zaR ((p.2.lookup m).isNone=Γ) (wEs es δ S1 λds S2=>wOut (appW cf f (x::ds) S2) Q)|.ix a b=>wE a δ S λx S1=>wE b δ S1 λy S2=>wSeq S2 x λds=>(match y with|.int i=>wOpt (atI ds i) λd=>Q d S2|_=>False)
 |.slS a b=>wE a δ S λx S1=>wE b δ S1 λy S2=>(match x,y with
  |.ref p,.int k=>zaR (k≠0) (wGet S2 p λo=>(match o with|.lst ds=>wLay S2 (stp ds k) Q|_=>False))|.tup ds,.int k=>zaR (k = -1) (Q (.tup ds.reverse) S2)|_,_=>False)
 |.sl a ml mh lo hi=>wE a δ S λx S1=>wE lo δ S1 λy S2=>wE hi δ S2 λz S3=>(match zbJ ml y,zbJ mh z with
  |some l,Φ h=>(match x with
   |.tup ds=>Q (.tup (cut ds l h)) S3|.fix ds=>wLay S3 (cut ds l h) Q|.ref p=>wGet S3 p λo=>(match o with|.lst ds=>wLay S3 (cut ds l h) Q|_=>False)|_=>False)
  |_,_=>False)
 |.call f j es=>wEs es δ S λds S1=>wOut (app cf f (ds++List.replicate j .non) S1) Q|.bi b es=>wEs es δ S λds S1=>wBi S1 b ds Q|.mt m o es=>wE o δ S λx S1=>wIsL S1 x (wEs es δ S1 λds S2=>wMt S2 m x ds Q)|.mkL l=>wL l δ S λr S1=>wLay S1 r.1 Q|.mkT l=>wL l δ S λr S1=>zaR (r.1.length<=16777216) (Q (.tup r.1) S1)|.all l=>wL l δ S λr S1=>wOpt (allD r.1) λb=>Q (.bl b) S1
 |.ext a l=>wE a δ S λx S1=>wIsL S1 x (wL l δ S1 λr S2=>(match x with
  |.ref p=>wGet S2 p λo=>(match o with|.lst ds=>wWr S2 p (ds++r.1) .non Q|_=>False)|_=>False))
 |.lenset l=>wL l δ S λr S1=>wOpt (zaG r.1) λis=>zaR (is.length<4000) (Q (.int (dedup is).length) S1)|.sset a=>wE a δ S λr S1=>wOpt (lstI S1 r) λis=>zaR (is.length<64) (wLay S1 ((zeC (dedup is)).map .int) Q)|.ssetP a=>wE a δ S λr S1=>wOpt (zjF S1 r) λks=>zaR (ks.length<300) (wLay S1 ((zcs ks).map lpD) Q)
def wEs(e₀:CEs)(δ:Ev)(S:St)(Q:(List D->St->Prop)):Prop:=match e₀ with|.nil=>Q [] S|.cons e r=>wE e δ S λd S1=>wEs r δ S1 λds S2=>Q (d::ds) S2
def wT(e₀:CE)(δ:Ev)(S:St)(Q:(Bool->St->Prop)):Prop:=match e₀ with|.cmp op a b=>wE a δ S λx S1=>wE b δ S1 λy S2=>wCmp S2 op x y λk=>Q k S2|.cmp2 op op' a b c=>wE a δ S λx S1=>wE b δ S1 λy S2=>wCmp S2 op x y λk=>wIf k (wE c δ S2 λz S4=>wCmp S4 op' y z λk'=>Q k' S4) (Q Δ S2)|.nt a=>wT a δ S λk S1=>Q (!k) S1|.and a b=>wT a δ S λk S1=>wIf k (wT b δ S1 Q) (Q Δ S1)|.or a b=>wT a δ S λk S1=>wIf k (Q Γ S1) (wT b δ S1 Q)|.tst e=>wE e δ S λx S1=>wTru S1 x λk=>Q k S1|_=>False
def wL(e₀:CL)(δ:Ev)(S:St)(Q:(List D×List Nat->St->Prop)):Prop:=match e₀ with
 |.val e=>wE e δ S λx S1=>wSeq S1 x λds=>Q (ds,lkOf S1 x) S1|.rng1 a=>wE a δ S λx S1=>(match x with|.int j=>zaR (-(2^62)<=j/\j<2^62) (Q ((List.range j.toNat).map λ(k:Nat)=>.int k,[]) S1)|_=>False)
 |.rng2 a b=>wE a δ S λx S1=>wE b δ S1 λy S2=>(match x,y with
  |.int i,.int j=>zaR (-(2^62)<=i/\i<2^62/\-(2^62)<=j/\j<2^62) (Q ((List.range (j-i).toNat).map λ(k:Nat)=>.int (i+k),[]) S2)|_,_=>False)
 |.enum a=>wE a δ S λx S1=>wOpt (zdM S1 x) λr=>Q r S1|.comp n js g it c e=>wL it δ S λr S1=>zhE r.2 S1 (λS2=>zax g (evT cf c) (evE cf e) r.1 (csl n js δ) S2) λds S3=>zaR (ds.length<=16777216) (Q (ds,[]) S3)
end
def wS(o:CS)(δ:Ev)(S:St)(Q:(Fl->St->Prop)):Prop:=match o with|.nil=>Q (.nx δ) S|.stop=>False|.asg i e r=>wE cf e δ S λx h=>wS r (δ.set i (Φ x)) h Q|.asgT g e r=>wE cf e δ S λx h=>wOpt (asgG g x δ) λj=>wS r j h Q|.setIx a b e r=>wE cf e δ S λv h=>wE cf a δ h λx m=>wE cf b δ m λy n=>wOpt (dPut n x y v) λp=>wS r δ p Q|.setF a f e r=>wE cf e δ S λv h=>wE cf a δ h λx m=>wOpt (zbF m x f v) λn=>wS r δ n Q|.ifS c t u r=>wT cf c δ S λk h=>wIf k (wS t δ h λf m=>(match f with|.nx j=>wS r j m Q|.rt d=>Q (.rt d) m)) (wS u δ h λf m=>(match f with|.nx j=>wS r j m Q|.rt d=>Q (.rt d) m))|.forS g l b r=>wL cf l δ S λq h=>zhE q.2 h (λm=>zbf g (exS cf b) q.1 δ m) λf n=>(match f with|.nx j=>wS r j n Q|.rt d=>Q (.rt d) n)|.ret e _=>wE cf e δ S λx h=>Q (.rt x) h|.expr e r=>wE cf e δ S λ_ h=>wS r δ h Q
end
section
variable{cf:CF}
theorem W.bnd(h:W o P)(k:∀a S,P a S->W (f a S) Q):W (o.bind f) Q:=by rw[zab];exact h.mono k
theorem zl4(h:wOpt o k)(q:∀a,k a->W (f a S) Q):W ((lift S o).bind f) Q:=by obtain⟨a,rfl,g⟩:=zaL h;exact q a g
theorem zix(h:wOpt o λa=>Q a S):W (lift S o) Q:=by rw[<-zoQ];exact h
theorem zl5(h:wIsL S x P)(q:P->W o Q):W (if isL S x then o else .bad) Q:=by rw[if_pos (ziz h).1];exact q (ziz h).2
theorem zkM(h:wIf c A B)(a:A->W o Q)(b:B->W u Q):W (if c then o else u) Q:=by cases c with|true=>exact a h|false=>exact b h
theorem zrn{o u:Out d}{f:d->St->Out e}{Q:e->St->Prop}(h:wIf c A B)(a:A->W (o.bind f) Q)(b:B->W (u.bind f) Q):W ((if c then o else u).bind f) Q:=by cases c with|true=>exact a h|false=>exact b h
theorem zl6(h:wCmp S op x y k)(q:∀b,k b->W (f b S) Q):W ((lift S (cmpD S op x y)).bind f) Q:=by obtain⟨b,e,h⟩:=ziD h;rw[e];exact q b h
theorem zoP(h:wSeq S x k)(q:∀b,k b->W (f b S) Q):W ((lift S (zct S x)).bind f) Q:=by obtain⟨b,e,h⟩:=ziw h;rw[e];exact q b h
theorem zl3(h:wOut o Q):W o Q:=by unfold wOut at h;exact h
mutual
theorem wE_W(e:CE){δ:Ev}{S:St}{Q:D->St->Prop}(h:wE cf e δ S Q):W (evE cf e δ S) Q:=by
 cases e with
 |loc i=>
  show W (lift S _) Q;conv at h=>whnf
  split at h;rename_i e;rw[e];exact h;exact h.elim
 |ix a b=>refine W.bnd (wE_W a h) λx S1 h=>W.bnd (wE_W b h) λy S2 h=>?_;obtain⟨ds,e,h⟩:=ziw h;rw[e];cases y with|int i=>exact zix h|_=>exact h.elim
 |sl a ml mh lo hi=>
  refine W.bnd (wE_W a h) λx S1 h=>W.bnd (wE_W lo h) λy S2 h=>W.bnd (wE_W hi h) λz S3 h=>?_;cases ey:zbJ ml y<;>cases ez:zbJ mh z<;>rw[ey,ez]at h<;>try exact h.elim
  cases x with
  |tup=>exact h|fix=>exact zfc h| ref=>obtain⟨o,e,h⟩:=zaL h;simp only[e];cases o<;>first|exact zfc h|exact h.elim
  |_=>exact h.elim
 |slS a b=>
  refine W.bnd (wE_W a h) λx S1 h=>W.bnd (wE_W b h) λy S2 h=>?_;split at h
  . unfold zaR at h;(try dsimp only);rw[if_neg h.1];obtain⟨o,e,h⟩:=zaL h.2;simp only[e];cases o<;>first|exact zfc h|exact h.elim
  unfold zaR at h;(try dsimp only);rw[if_pos h.1];exact h.2;exact h.elim
 |ext a l=>
  refine W.bnd (wE_W a h) λx S1 h=>zl5 h λh=>W.bnd (wL_W l h) λr S2 h=>?_;cases x with
  |ref p=>obtain⟨o,e,h⟩:=zaL h;simp only[e];cases o<;>first|exact zmR h|exact h.elim
  |_=>exact h.elim
 |_=>
  conv at h=>whnf
  first
  |exact h
  |exact h.elim
  |refine W.bnd (wE_W _ h) λ_ _ h=>?_|refine W.bnd (zmT _ h) λ_ _ h=>?_|refine W.bnd (wL_W _ h) λ_ _ h=>?_|refine W.bnd (wT_W _ h) λ_ _ h=>?_
  repeat' first
  |exact h
  |exact h.elim
  |exact zoR h
  |exact zro h
  |exact zrm h
  |exact zfc h
  |exact zmR h
  |exact zl3 h
  |exact zix h
  |exact wE_W _ h
  |refine W.bnd (wE_W _ h) λ_ _ h=>?_|refine W.bnd (zmT _ h) λ_ _ h=>?_|refine W.bnd (zl3 h) λ_ _ h=>?_|refine zl6 h λ_ h=>?_|refine zl4 h λ_ h=>?_|refine zbC h λh=>?_|refine zl5 h λh=>?_|refine zkM h (λh=>?_) λh=>?_
  |split at h
theorem zmT(es:CEs){δ:Ev}{S:St}{Q:List D->St->Prop}(h:wEs cf es δ S Q):W (evEs cf es δ S) Q:=by cases es with|nil=>exact h|cons e r=>exact W.bnd (wE_W e h) λ_ _ h=>W.bnd (zmT r h) λ_ _ h=>h
theorem wT_W(e:CE){δ:Ev}{S:St}{Q:Bool->St->Prop}(h:wT cf e δ S Q):W (evT cf e δ S) Q:=by cases e with|cmp op a b=>exact W.bnd (wE_W a h) λ_ _ h=>W.bnd (wE_W b h) λ_ _ h=>zl7 h|cmp2 op op' a b c=>exact W.bnd (wE_W a h) λ_ _ h=>W.bnd (wE_W b h) λ_ _ h=>zl6 h λ_ h=>zkM h (λh=>W.bnd (wE_W c h) λ_ _ h=>zl7 h) λh=>h|nt a=>exact W.bnd (wT_W a h) λ_ _ h=>h|and a b=>exact W.bnd (wT_W a h) λ_ _ h=>zkM h (wT_W b) λh=>h|or a b=>exact W.bnd (wT_W a h) λ_ _ h=>zkM h (λh=>h) (wT_W b)|tst e=>exact W.bnd (wE_W e h) λ_ _ h=>zoO h|_=>exact h.elim
theorem wL_W(l:CL){δ:Ev}{S:St}{Q:List D×List Nat->St->Prop}(h:wL cf l δ S Q):W (evL cf l δ S) Q:=by
 cases l with
 |val e=>exact W.bnd (wE_W e h) λ_ _ h=>zoP h λ_ h=>h| rng1 a=>refine W.bnd (wE_W a h) λx _ h=>?_;cases x<;>first|exact zbC h λh=>h|exact h.elim
 |rng2 a b=>refine W.bnd (wE_W a h) λx _ h=>W.bnd (wE_W b h) λy _ h=>?_;cases x<;>first|exact h.elim|(cases y<;>first|exact zbC h λh=>h|exact h.elim)
 |enum a=>exact W.bnd (wE_W a h) λ_ _ h=>zix h|comp n js g it c e=>exact W.bnd (wL_W it h) λ_ _ h=>W.bnd (ziy h) λ_ _ h=>zbC h λh=>h
end
theorem wS_W(s)(h:wS cf s δ S Q):W (exS cf s δ S) Q:=by
 induction s generalizing δ S Q with
 |nil=>exact h|stop=>exact h.elim|asg i e r d=>exact W.bnd (wE_W e h) λ_ _ h=>d h|asgT g e r d=>exact W.bnd (wE_W e h) λ_ _ h=>zl4 h λ_ h=>d h|setIx a b e r d=>exact W.bnd (wE_W e h) λ_ _ h=>W.bnd (wE_W a h) λ_ _ h=>W.bnd (wE_W b h) λ_ _ h=>(zaL h).elim λ_ h=>by rw[h.1];exact d h.2|setF a f e r d=>exact W.bnd (wE_W e h) λ_ _ h=>W.bnd (wE_W a h) λ_ _ h=>(zaL h).elim λ_ h=>by rw[h.1];exact d h.2| ifS c t u r j k d=>
  refine W.bnd (wT_W c h) λ_ _ h=>zrn h (λh=>W.bnd (j h) λf _ h=>?_) λh=>W.bnd (k h) λf _ h=>?_
  all_goals
   cases f with|nx=>exact d h|rt=>exact h
 |forS g l b r m d=>refine W.bnd (wL_W l h) λ_ _ h=>W.bnd (ziy h) λf _ h=>?_;cases f with|nx=>exact d h|rt=>exact h
 |ret e=>exact W.bnd (wE_W e h) λ_ _ h=>h|expr e r d=>exact W.bnd (wE_W e h) λ_ _ h=>d h
@[irreducible]def wFin(S:St)(r:Fl)(T:St)(Q:D->St->Prop):Prop:=W (fin S r T) Q
theorem zsn(h:P[f]?=Φ F)(b:a.length=F.np)(w:wS (callF P n) F.body (zaP F a) S.enter λr T=>wFin S r T Q)(c:F.prim=Ψ:=by rfl):
  W (app (callF P (n+1)) f a S) Q:=by
 rw[zf9 h b c,zab];refine(wS_W _ w).mono λr T q=>?_;unfold wFin at q;exact q
theorem zaZ(h:P[f]?=Φ F)(c:b.length=F.np)(w:wS (callF P n) F.body (zaP F b) S.enter λr T=>wFin S r T λa e=>a=d/\e=S')(g:F.prim=Ψ:=by rfl):
 app (callF P (n+1)) f b S=.ok d S':=W.eq (zsn h c w g)
theorem zah(h:flat S.len d=Γ)(q:Q d S):wFin S (.rt d) T Q:=by unfold wFin;rw[zhs,zif S d T h];exact q
theorem ziC(d:S.len<=l)(b:T.get l=Φ (.lst a))(h:flats S.len a=Γ)(q:Q (.ref S.len) (S.push (.lst a))):wFin S (.rt (.ref l)) T Q:=by
 have c:flat S.len (.ref l)=Δ:=by simp[flat];omega
 unfold wFin;rw[zhs];unfold zcN;simp only[c,b,h];exact q
end
structure Frm(S S':St):Prop where
 frz:S'.frz=S.frz
 lk:S'.lk=S.lk
 len:S.new.length<=S'.new.length
 same:∀l∈S.lk,l<S.len->S'.get l=S.get l
theorem Frm.refl(S):Frm S S:=⟨rfl,rfl,le_refl _,λ_ _ _=>rfl⟩
theorem Frm.lens(h:Frm S a):S.len<=a.len:=by unfold St.len;rw[h.frz];have:=h.len;lia
theorem Frm.trans(a:Frm S S1)(b:Frm S1 d):Frm S d:=⟨b.frz.trans a.frz,b.lk.trans a.lk,le_trans a.len b.len,λl c h=>(b.same l (by rw[a.lk];exact c) (lt_of_lt_of_le h a.lens)).trans (a.same l c h)⟩
theorem Frm.push(S)(o):Frm S (S.push o):=by refine⟨rfl,rfl,by simp[St.push],λl _ h=>?_⟩;unfold St.len at h;unfold St.get St.push;simp only;split;rfl;rw[getElem?_append_left (by omega)]
theorem Frm.put(h:S.put l o=Φ a):Frm S a:=by
 unfold St.put at h;split at h;exact nS h;split at h;exact nS h;rename_i f b;injection h with h;subst h;refine⟨rfl,rfl,by simp,λm c g=>?_⟩;have d:m≠l:=λe=>by subst e;exact b (by simpa using c)
 unfold St.get;simp only;split;rfl;rw[getElem?_set_ne (by lia)]
theorem Frm.keep(S T:St):Frm S ⟨S.frz,S.new++T.new,S.lk⟩:=by refine⟨rfl,rfl,by simp,λl _ h=>?_⟩;unfold St.len at h;unfold St.get;simp only;split;rfl;rw[getElem?_append_left (by omega)]
noncomputable def Fr{b:Type}(S:St)(o:Out b):Prop:=∀a T,o=.ok a T->Frm S T
section
variable{α β:Type}{S T:St}{o:Out α}
theorem Fr.of(h:Frm S T):Fr S (.ok a T):=λ_ _ e=>by cases e;exact h
theorem Fr.ok:Fr S (.ok a S):=.of (.refl S)
theorem Fr.bad:Fr S (.bad:Out α):=λ_ _ e=>by cases e
theorem Fr.to(h:Frm S T)(k:Fr T o):Fr S o:=λa U e=>h.trans (k a U e)
theorem Fr.bind(h:Fr S o)(k:∀a T,Fr T (f a T)):Fr S (o.bind f):=by cases o with|ok a T=>exact .to (h a T rfl) (k a T)|_=>exact λ_ _ e=>by cases e
theorem Fr.w(f:Fr S o)(h:W o Q):W o λa T=>Q a T/\Frm S T:=by cases o with|ok a T=>exact⟨h,f a T rfl⟩|_=>exact h
theorem Fr.lift{o:Option α}:Fr S (lift S o):=by cases o with|none=>exact .bad|some=>exact .ok
theorem Fr.lock(h:∀S,Fr S (f S)):Fr S (zbg ls S f):=by unfold zbg;cases e:f {S with lk:=ls++S.lk} with|ok a T=>exact .of (have h:=h _ a T e;⟨h.frz,rfl,h.len,λl b c=>h.same l (mem_append_right _ b) c⟩)|_=>exact λ_ _ e=>by cases e
theorem zqT:Fr S (lay S a):=by unfold lay;split;exact .of (.push _ _);exact .bad
theorem frWr:Fr S (wr S l a d):=by
 unfold wr
 repeat' first
 |exact .bad
 |exact .of (.put (by assumption))
 |split
theorem zsa:Fr S (binD S op x y):=by
 unfold binD binI
 repeat' first
 |exact .bad
 |exact .ok
 |exact zqT
 |split
theorem frBi:Fr S (bi S b a):=by
 cases b<;>rcases a with _|⟨x,_|⟨y,_|⟨z,_⟩⟩⟩
 all_goals first
 |exact .bad
 |exact .ok
 |(unfold bi;dsimp only;split<;>first|exact .bad|exact .ok|(split<;>first|exact .bad|exact .ok))
 |(cases x<;>first|exact .bad|exact .ok|(cases y<;>first|exact .bad|exact .ok))
theorem frMt:Fr S (mt S m x a):=by
 cases m<;>cases x<;>(try exact .bad)<;>rcases a with _|⟨y,_|⟨z,_⟩⟩
 all_goals first
 |exact .bad
 |(unfold mt;dsimp only;split<;>first|exact .bad|exact frWr)
 |(cases y<;>first
  |exact .bad
  |(unfold mt;dsimp only;repeat' first
   |exact .bad
   |exact .ok
   |exact frWr
   |split))
theorem zr9(h:zbF S x f v=Φ T):Frm S T:=by
 unfold zbF at h
 repeat' first
 |exact .put h
 |exact nS h
 |split at h
theorem zr8(h:dPut S x y v=Φ T):Frm S T:=by
 unfold dPut Option.bind at h
 repeat' first
 |exact .put h
 |exact nS h
 |split at h
 |dsimp only at h
theorem zop:Fr S (zcN S d T):=by
 unfold zcN;dsimp only
 repeat' first
 |exact .ok
 |exact .of (.push _ _)
 |exact .of (.keep _ _)
 |split
theorem zsb:Fr S (app cf f a S):=by unfold app;cases cf f a S.enter with|ok=>exact zop|_=>exact λ_ _ e=>by cases e
theorem frC(a:∀δ S,Fr S (c δ S))(b:∀δ S,Fr S (e δ S))(xs)(δ)(S):Fr S (zax g c e xs δ S):=by
 induction xs generalizing δ S with
 |nil=>exact .ok| cons x xs d=>
  unfold zax
  repeat' first
  |exact .bad
  |exact .ok
  |exact d _ _
  |exact a _ _
  |exact b _ _
  |refine Fr.bind ?_ λ_ _=>?_
  |split
theorem frF(a:∀δ S,Fr S (b δ S))(xs)(δ)(S):Fr S (zbf g b xs δ S):=by
 induction xs generalizing δ S with
 |nil=>exact .ok| cons x xs c=>
  unfold zbf
  repeat' first
  |exact .bad
  |exact .ok
  |exact c _ _
  |exact a _ _
  |refine Fr.bind ?_ λ_ _=>?_
  |split
end
def CFok(cf:CF):Prop:=∀f a S d T,cf f a S=.ok d T->Frm S T
section
variable{cf:CF}(hcf:CFok cf)
include hcf
theorem frW{f:Nat}{a:List D}{S:St}:Fr S (appW cf f a S):=by unfold appW;exact hcf f a S
mutual
theorem frE(e:CE)(δ:Ev)(S:St):Fr S (evE cf e δ S):=by
 cases e
 all_goals
  first
  |exact .ok
  |exact .bad
  |exact .lift
  |exact .of (.push _ _)
  |refine Fr.bind ?_ λ_ _=>?_
 all_goals
  repeat' first
  |exact .ok
  |exact .bad
  |exact .lift
  |exact frE _ _ _
  |exact frEs _ _ _
  |exact frT _ _ _
  |exact frL _ _ _
  |exact zsa
  |exact frBi
  |exact frMt
  |exact zqT
  |exact frWr
  |exact zsb
  |exact frW hcf
  |exact .to (.push _ _) (frW hcf)
  |refine Fr.bind ?_ λ_ _=>?_
  |split
theorem frEs(e:CEs)(δ:Ev)(S:St):Fr S (evEs cf e δ S):=by cases e with|nil=>exact .ok|cons e r=>exact .bind (frE e δ S) λ_ T=>.bind (frEs r δ T) λ_ _=>.ok
theorem frT(e:CE)(δ:Ev)(S:St):Fr S (evT cf e δ S):=by
 cases e
 all_goals
  first
  |exact .bad
  |refine Fr.bind ?_ λ_ _=>?_
 all_goals
  repeat' first
  |exact .ok
  |exact .lift
  |exact frE _ _ _
  |exact frT _ _ _
  |refine Fr.bind ?_ λ_ _=>?_
  |split
theorem frL(e:CL)(δ:Ev)(S:St):Fr S (evL cf e δ S):=by
 cases e
 all_goals
  refine Fr.bind ?_ λ_ _=>?_
  all_goals
   repeat' first
   |exact .ok
   |exact .bad
   |exact .lift
   |exact frE _ _ _
   |exact frL _ _ _
   |exact .lock λ_=>frC (λδ S=>frT _ δ S) (λδ S=>frE _ δ S) _ _ _|refine Fr.bind ?_ λ_ _=>?_
   |split
end
theorem frS(s:CS)(δ:Ev)(S:St):Fr S (exS cf s δ S):=by
 cases s
 all_goals
  first
  |exact .ok
  |exact .bad
  |refine Fr.bind ?_ λ_ _=>?_
 all_goals
  repeat' first
  |exact .ok
  |exact .bad
  |exact .lift
  |exact frE hcf _ _ _
  |exact frT hcf _ _ _
  |exact frL hcf _ _ _
  |exact frS _ _ _
  |exact .to (zr8 (by assumption)) (frS _ _ _)
  |exact .to (zr9 (by assumption)) (frS _ _ _)
  |exact .lock λ_=>frF (λδ S=>frS _ δ S) _ _ _|refine Fr.bind ?_ λ_ _=>?_
  |split
end
end R
namespace R
open PySem L2
def KL(K:Frag)(a:Addr)(xs:List V):Prop:=∃(o:Obj) (b:Array Λ) (n:Nat),K.lookup a=Φ o/\o.cls=.type "list"/\o.dict=Ψ/\o.data=.seq b n/\b.size<=sizeLine/\Vals xs b.toList
def FixL(K:Frag)(H:Hp)(a:Addr)(xs:List V):Prop:=(∃o,H a=Φ (.frz o (.lst xs)))\/KL K a xs
theorem FixL.sq(h:FixL K H a xs):SqL K H a xs:=h.elim (λz=>(by obtain⟨o,e⟩:=z;exact .inl (.inr ⟨o,e⟩))) .inr
class Mks where
 ts:List (Addr×Str)
 cl:List Addr
variable[Mks]
def TabIn(H:Hp)(P:Addr)(q:Str):Prop:=∃a:Array Λ,H P=Φ (.tbl a)/\TriplesOk a.toList/\
 ∀(pos:Pos)(v:Λ),codeAmong pos a.toList=Φ v->∃(c:Addr) (b:Obj) (d:Array Λ) (t:Tok),v=.ref c/\H c=Φ (.frz b (.own 0))/\b.data=.fields d/\d[1]?=Φ (.str q t)
theorem TabIn.up(t:TabIn H P q)(e:H' P=H P)(f:∀b o u,H b=Φ (.frz o u)->H' b=Φ (.frz o u)):TabIn H' P q:=by obtain⟨a,d,g,h⟩:=t;refine⟨a,by rw[e];exact d,g,λpos v i=>?_⟩;obtain⟨c,j,k,t,l,m,n⟩:=h pos v i;exact⟨c,j,k,t,l,f _ _ _ m,n⟩
def TB(H:Hp):Prop:=∀p∈Mks.ts,TabIn H p.1 p.2
structure Kp(H H':Hp):Prop where
 tups:Tups H H'
 frzs:∀b o u,H b=Φ (.frz o u)->H' b=Φ (.frz o u)
 tab:TB H->TB H'
theorem Kp.refl(H):Kp H H:=⟨Tups.refl H,λ_ _ _ h=>h,λh=>h⟩
theorem Kp.trans(a:Kp H d)(b:Kp d e):Kp H e:=⟨a.tups.trans b.tups,λc o u h=>b.frzs c o u (a.frzs c o u h),λh=>b.tab (a.tab h)⟩
theorem Kp.same(a:Tups H H')(b:∀b o u,H b=Φ (.frz o u)->H' b=Φ (.frz o u))(c:∀P f,H P=Φ (.tbl f)->H' P=Φ (.tbl f)):Kp H H':=⟨a,b,λh p d=>by obtain⟨f,e,_⟩:=id (h p d);exact(h p d).up ((c _ _ e).trans e.symm) b⟩
theorem FixL.kp(h:FixL K H a xs)(k:Kp H H'):FixL K H' a xs:=h.elim (λz=>(by obtain⟨o,e⟩:=z;exact .inl ⟨o,k.frzs _ _ _ e⟩)) .inr
mutual
def RV(K:Frag)(ι:List Addr)(H:Hp):D->V->Prop
 |.non,v=>v=.non|.bl b,v=>v=.bl b|.int i,v=>v=.int i|.str x,v=>v=.str x|.tup ds,v=>∃a xs,v=.ref a/\H a=Φ (.tup xs)/\RVs K ι H ds xs|.ref l,v=>∃a,ι[l]?=Φ a/\v=.ref a|.fix ds,v=>∃a xs,v=.ref a/\FixL K H a xs/\RVs K ι H ds xs
def RVs(K:Frag)(ι:List Addr)(H:Hp):List D->List V->Prop
 | [],vs=>vs=[]|d::ds,vs=>∃v r,vs=v::r/\RV K ι H d v/\RVs K ι H ds r
end
def R3s(K:Frag)(ι:List Addr)(H:Hp):List (K3×D)->List (K3×Addr×V)->Prop
 | [],a=>a=[]|(k,d)::r,a=>∃c v w,a=(k,c,v)::w/\Key3 H k c/\RV K ι H d v/\R3s K ι H r w
def RFs(K:Frag)(ι:List Addr)(H:Hp):List (Str×D)->List (Str×V)->Prop
 | [],a=>a=[]|(f,d)::r,a=>∃v w,a=(f,v)::w/\RV K ι H d v/\RFs K ι H r w
def RO(K:Frag)(ι:List Addr)(H:Hp)(a:Addr):MO->Prop
 |.lst f=>∃e,H a=Φ (.lst e)/\RVs K ι H f e|.ins c g=>∃C h b,Mks.cl[c]?=Φ C/\H a=Φ (.ins C h b)/\RFs K ι H g b|.d3 d=>(d.map (·.1)).Nodup/\∃b,H a=Φ (.ext (TriO a b))/\R3s K ι H d b
structure RH(K:Frag)(ι:List Addr)(H:Hp)(S:St):Prop where
 len:ι.length=S.len
 nd:ι.Nodup
 obj:∀l o,S.get l=Φ o->∃a,ι[l]?=Φ a/\RO K ι H a o
 tab:TB H
structure Ext(ι:List Addr)(H:Hp)(ι':List Addr)(H':Hp):Prop where
 pre:ι <+: ι'
 kp:Kp H H'
 rest:∀a o,a∉ι->H a=Φ o->(H' a=Φ o\/((∃ps,o=.tbl ps)/\∃ps,H' a=Φ (.tbl ps)))/\a∉ι'
theorem Ext.refl(ι)(H):Ext ι H ι H:=⟨prefix_refl _,Kp.refl H,λa o h e=>⟨.inl e,h⟩⟩
theorem Ext.trans(a:Ext ι H f j)(b:Ext f j g k):Ext ι H g k:=⟨a.pre.trans b.pre,a.kp.trans b.kp,λx o h e=>by obtain⟨c,i⟩:=a.rest x o h e;rcases c with c|⟨t,l,c⟩;exact b.rest x o i c;obtain⟨d,m⟩:=b.rest x _ i c;refine⟨.inr ⟨t,?_⟩,m⟩;rcases d with d|⟨_,d⟩;exact⟨l,d⟩;exact d⟩
theorem Ext.keep(x:Ext ι H b c)(h:a∉ι)(e:H a=Φ o)(n:∀d,o≠.tbl d):c a=Φ o:=(x.rest a o h e).1.elim id λk=>(by obtain⟨⟨d,z⟩,_⟩:=k;exact absurd z (n d))
theorem zci(h:ι <+: b){l:Nat}{a:Addr}(e:ι[l]?=Φ a):b[l]?=Φ a:=by obtain⟨t,rfl⟩:=h;rw[getElem?_append_left (Β.mp e).1];exact e
mutual
theorem RV.up{K:Frag}{ι ι':List Addr}{H H':Hp}(hp:ι <+: ι')(hk:Kp H H'):∀{d:D}{v:V},RV K ι H d v->RV K ι' H' d v
 |.non,_,r=>r|.bl _,_,r=>r|.int _,_,r=>r|.str _,_,r=>r| .tup ds,_,r=>by obtain⟨a,xs,e,ha,q⟩:=r;exact⟨a,xs,e,hk.tups _ _ ha,RVs.up hp hk q⟩| .ref l,_,r=>by obtain⟨a,e,q⟩:=r;exact⟨a,zci hp e,q⟩| .fix ds,_,r=>by obtain⟨a,xs,e,ha,q⟩:=r;exact⟨a,xs,e,ha.kp hk,RVs.up hp hk q⟩
theorem RVs.up{K:Frag}{ι ι':List Addr}{H H':Hp}(hp:ι <+: ι')(hk:Kp H H'):∀{ds:List D}{vs:List V},RVs K ι H ds vs->RVs K ι' H' ds vs
 | [],_,r=>r| d::ds,vs,r=>by obtain⟨v,w,e,r1,r2⟩:=r;exact⟨v,w,e,RV.up hp hk r1,RVs.up hp hk r2⟩
end
theorem R3s.up(hp:ι <+: ι')(hk:Kp H H'):∀{kvs:List (K3×D)}{ws:List (K3×Addr×V)},R3s K ι H kvs ws->R3s K ι' H' kvs ws
 | [],_,r=>r| (k,d)::kvs,ws,r=>by obtain⟨c,v,w,e,r0,r1,r2⟩:=r;exact⟨c,v,w,e,r0.up hk.tups,RV.up hp hk r1,R3s.up hp hk r2⟩
theorem R3s.length:∀{kvs:List (K3×D)}{ws:List (K3×Addr×V)},R3s K ι H kvs ws->ws.length=kvs.length
 | [],_,r=>by rw[show _=[] from r];rfl| (k,d)::kvs,ws,r=>by obtain⟨c,v,w,rfl,_,_,r2⟩:=r;simp[R3s.length r2]
theorem R3s.keys:∀{kvs:List (K3×D)}{ws:List (K3×Addr×V)},R3s K ι H kvs ws->ws.map (·.1)=kvs.map (·.1)
 | [],_,r=>by rw[show _=[] from r];rfl| (k,d)::kvs,ws,r=>by obtain⟨c,v,w,rfl,_,_,r2⟩:=r;simp[R3s.keys r2]
theorem R3s.triK:∀{kvs:List (K3×D)}{ws:List (K3×Addr×V)},R3s K ι H kvs ws->TriK H ws
 | [],_,r=>by rw[show _=[] from r];intro x hx;cases hx
 |(k,d)::kvs,ws,r=>by obtain⟨c,v,w,rfl,r0,_,r2⟩:=r;intro x hx;rcases mem_cons.mp hx with e|e;subst e;exact r0;exact R3s.triK r2 x e
theorem R3s.put(q:RV K ι H d v)(n:Key3 H k c)(r:R3s K ι H a b):R3s K ι H (zbH a k d) (put3 b k c v):=by
 unfold zbH put3;rw[r.keys];split;rename_i l;clear l;induction a generalizing b with|nil=>rw[show b=[] from r];rfl| cons x a f=>obtain⟨j,e⟩:=x;obtain⟨g,u,w,rfl,h,m,i⟩:=r;rw[ϋ,ϋ];by_cases z:j=k;rw[if_pos z,if_pos z];exact⟨g,v,_,rfl,h,q,f i⟩;rw[if_neg z,if_neg z];exact⟨g,u,_,rfl,h,m,f i⟩
 rename_i l;clear l;induction a generalizing b with|nil=>rw[show b=[] from r];exact⟨c,v,[],rfl,n,q,rfl⟩| cons x a f=>obtain⟨j,e⟩:=x;obtain⟨g,u,w,rfl,h,m,i⟩:=r;exact⟨g,u,_,rfl,h,m,f i⟩
theorem zgs(h:(c.map (·.1)).Nodup):((zbH c k d).map (·.1)).Nodup:=by unfold zbH;split;rw[map_map,show((λx:K3×D=>x.1)∘λx=>if x.1=k then(x.1,d) else x)=λx=>x.1 from by funext x;show(if x.1=k then(x.1,d) else x).1=x.1;split<;>rfl];exact h;rename_i n;rw[map_append,nodup_append];refine⟨h,by simp,λa f b e=>?_⟩;simp only[ϋ,map_nil,mem_singleton]at e;subst e;exact λz=>n (z▸f)
theorem RFs.up(b:ι <+: a)(hk:Kp H H'):∀{c:List (Str×D)}{ws:List (Str×V)},RFs K ι H c ws->RFs K a H' c ws
 | [],_,h=>h| (f,d)::r,_,h=>by obtain⟨v,w,e,g,i⟩:=h;exact⟨v,w,e,RV.up b hk g,RFs.up b hk i⟩
theorem RFs.length:∀{a:List (Str×D)}{ws:List (Str×V)},RFs K ι H a ws->ws.length=a.length
 | [],_,h=>by cases(show _=[] from h);rfl| (f,d)::r,_,h=>by obtain⟨v,w,rfl,c,b⟩:=h;simp[RFs.length b]
theorem RFs.look(f):∀{a:List (Str×D)}{ws:List (Str×V)},RFs K ι H a ws->(a.lookup f=Ψ/\ws.lookup f=Ψ)\/∃d v,a.lookup f=Φ d/\ws.lookup f=Φ v/\RV K ι H d v
 | [],_,h=>by cases(show _=[] from h);exact .inl ⟨rfl,rfl⟩| (g,d)::r,_,h=>by
  obtain⟨v,w,rfl,b,e⟩:=h;by_cases c:(f==g)=Γ;exact .inr ⟨d,v,by simp only[List.lookup,c],by simp only[List.lookup,c],b⟩;have c:(f==g)=Δ:=by simpa using c
  simp only[List.lookup,c];exact RFs.look f e
theorem RFs.put(f)(q:RV K ι H d v):∀{a:List (Str×D)}{ws:List (Str×V)},RFs K ι H a ws->RFs K ι H (zje f d a) (putF f v ws)
 | [],_,h=>by cases(show _=[] from h);exact⟨v,[],rfl,q,rfl⟩| (g,x)::r,_,h=>by obtain⟨u,w,rfl,e,b⟩:=h;unfold zje putF;by_cases c:g=f;rw[if_pos c,if_pos c];exact⟨v,w,rfl,q,b⟩;rw[if_neg c,if_neg c];exact⟨u,_,rfl,e,RFs.put f q b⟩
theorem RV.ext(h:Ext ι H a H')(r:RV K ι H d v):RV K a H' d v:=r.up h.pre h.kp
theorem RVs.ext(h:Ext ι H a H')(r:RVs K ι H b vs):RVs K a H' b vs:=r.up h.pre h.kp
theorem RVs.length:∀{ds:List D}{vs:List V},RVs K ι H ds vs->vs.length=ds.length
 | [],_,r=>by rw[show _=[] from r];rfl| d::ds,vs,r=>by obtain⟨v,w,rfl,_,a⟩:=r;simp[RVs.length a]
theorem RVs.get:∀{ds:List D}{vs:List V}{i:Nat}{d:D},RVs K ι H ds vs->ds[i]?=Φ d->∃v,vs[i]?=Φ v/\RV K ι H d v
 | [],_,_,_,_,e=>by simp at e| d::ds,vs,0,a,r,e=>by obtain⟨v,w,rfl,b,_⟩:=r;simp at e;subst e;exact⟨v,rfl,b⟩| d::ds,vs,i+1,a,r,e=>by obtain⟨v,w,rfl,_,c⟩:=r;obtain⟨u,f,g⟩:=RVs.get (i:=i) (d:=a) c (by simpa using e);exact⟨u,by simpa using f,g⟩
theorem RVs.get'{i:Nat}(r:RVs K ι H f vs)(e:vs[i]?=Φ v):∃d,f[i]?=Φ d/\RV K ι H d v:=by
 have a:i<f.length:=by rw[<-r.length];exact(Β.mp e).1
 obtain⟨u,b,c⟩:=r.get (Ε a);rw[e]at b;cases b;exact⟨_,Ε a,c⟩
theorem RVs.append:∀{ds es:List D}{vs us:List V},RVs K ι H ds vs->RVs K ι H es us->RVs K ι H (ds++es) (vs++us)
 | [],_,_,_,r,q=>by rw[show _=[] from r];exact q| d::ds,es,vs,us,r,q=>by obtain⟨v,w,rfl,a,b⟩:=r;exact⟨v,w++us,rfl,a,RVs.append b q⟩
theorem RVs.take:∀{ds:List D}{vs:List V}(n:Nat),RVs K ι H ds vs->RVs K ι H (ds.take n) (vs.take n)
 |_,_,0,_=>rfl| [],_,n+1,r=>by rw[show _=[] from r];rfl| d::ds,vs,n+1,r=>by obtain⟨v,w,rfl,a,b⟩:=r;exact⟨v,w.take n,rfl,a,RVs.take n b⟩
theorem RVs.drop:∀{ds:List D}{vs:List V}(n:Nat),RVs K ι H ds vs->RVs K ι H (ds.drop n) (vs.drop n)
 |_,_,0,r=>r| [],_,n+1,r=>by rw[show _=[] from r];rfl| d::ds,vs,n+1,r=>by obtain⟨v,w,rfl,b,a⟩:=r;exact RVs.drop n a
theorem RVs.set(q:RV K ι H d v):∀{ds:List D}{vs:List V}(n:Nat),RVs K ι H ds vs->RVs K ι H (ds.set n d) (vs.set n v)
 | [],_,n,r=>by rw[show _=[] from r];rfl| _::ds,vs,0,r=>by obtain⟨_,w,rfl,r1,r2⟩:=r;exact⟨v,w,rfl,q,r2⟩| _::ds,vs,n+1,r=>by obtain⟨u,w,rfl,r1,r2⟩:=r;exact⟨u,w.set n v,rfl,r1,RVs.set q n r2⟩
theorem RVs.erase(n)(r:RVs K ι H a vs):RVs K ι H (a.eraseIdx n) (vs.eraseIdx n):=by rw[List.eraseIdx_eq_take_drop_succ,List.eraseIdx_eq_take_drop_succ];exact(r.take n).append (r.drop (n+1))
theorem RVs.cons_iff:RVs K ι H (d::c) (v::vs)↔RV K ι H d v/\RVs K ι H c vs:=by constructor;rintro⟨f,r,e,a,b⟩;cases e;exact⟨a,b⟩;rintro⟨a,b⟩;exact⟨v,vs,rfl,a,b⟩
theorem RVs.ints:∀ns:List Int,RVs K ι H (ns.map D.int) (ns.map V.int)
 | []=>rfl|n::ns=>⟨_,_,rfl,rfl,RVs.ints ns⟩
theorem RVs.ints_eq:∀{ns:List Int}{vs:List V},RVs K ι H (ns.map D.int) vs->vs=ns.map V.int
 | [],_,h=>h| n::ns,vs,h=>by obtain⟨v,r,rfl,a,b⟩:=h;rw[RVs.ints_eq b,show v=.int n from a];rfl
theorem zcA:∀{a:List D}{ns:List Int},zaG a=Φ ns->a=ns.map D.int:=by
 intro a;unfold zaG;induction a with
 |nil=>intro ns h;simp at h;subst h;rfl| cons d a b=>
  intro ns h;rw[mapM_cons]at h;cases d with
  |int i=>cases e:List.mapM zeV a with|none=>rw[e]at h;simp[zeV]at h|some c=>rw[e]at h;simp[zeV]at h;subst h;simp[b e]
  |_=>simp[zeV]at h
mutual
theorem RV.flat{K:Frag}{ι:List Addr}{H:Hp}:∀{d:D}{v:V},RV K ι H d v->R.flat ι.length d=Γ
 |.non,_,_=>by simp[R.flat]|.bl _,_,_=>by simp[R.flat]|.int _,_,_=>by simp[R.flat]|.str _,_,_=>by simp[R.flat]| .tup ds,_,r=>by obtain⟨a,xs,e,ha,q⟩:=r;simp only[R.flat];exact RVs.flats q| .ref l,_,r=>by obtain⟨a,e,q⟩:=r;simp only[R.flat,decide_eq_true_eq];exact(Β.mp e).1| .fix ds,_,r=>by obtain⟨a,xs,e,ha,q⟩:=r;simp only[R.flat];exact RVs.flats q
theorem RVs.flats{K:Frag}{ι:List Addr}{H:Hp}:∀{ds:List D}{vs:List V},RVs K ι H ds vs->R.flats ι.length ds=Γ
 | [],_,_=>by simp[R.flats]| d::ds,vs,r=>by obtain⟨v,w,e,r1,r2⟩:=r;simp only[R.flats,Α];exact⟨RV.flat r1,RVs.flats r2⟩
end
mutual
theorem RV.restrict{K:Frag}{ι ι':List Addr}{H:Hp}(hp:ι <+: ι'):∀{d:D}{v:V},R.flat ι.length d=Γ->RV K ι' H d v->RV K ι H d v
 |.non,_,_,r=>r|.bl _,_,_,r=>r|.int _,_,_,r=>r|.str _,_,_,r=>r| .tup ds,_,f,r=>by obtain⟨a,xs,e,ha,q⟩:=r;simp only[R.flat]at f;exact⟨a,xs,e,ha,RVs.restrict hp f q⟩| .ref l,_,f,r=>by obtain⟨a,e,q⟩:=r;simp only[R.flat,decide_eq_true_eq]at f;refine⟨a,?_,q⟩;obtain⟨t,rfl⟩:=hp;rw[getElem?_append_left f]at e;exact e| .fix ds,_,f,r=>by obtain⟨a,xs,e,ha,q⟩:=r;simp only[R.flat]at f;exact⟨a,xs,e,ha,RVs.restrict hp f q⟩
theorem RVs.restrict{K:Frag}{ι ι':List Addr}{H:Hp}(hp:ι <+: ι'):∀{ds:List D}{vs:List V},R.flats ι.length ds=Γ->RVs K ι' H ds vs->RVs K ι H ds vs
 | [],_,_,r=>r| d::ds,vs,f,r=>by obtain⟨v,w,e,r1,r2⟩:=r;simp only[R.flats,Α]at f;exact⟨v,w,e,RV.restrict hp f.1 r1,RVs.restrict hp f.2 r2⟩
end
theorem R3s.flats:∀{kvs:List (K3×D)}{ws:List (K3×Addr×V)},R3s K ι H kvs ws->R.flats ι.length (kvs.map (·.2))=Γ
 | [],_,_=>by simp[R.flats]| (k,d)::kvs,ws,r=>by obtain⟨c,v,w,e,_,r1,r2⟩:=r;simp only[ϋ,R.flats,Α];exact⟨RV.flat r1,R3s.flats r2⟩
theorem R3s.restrict(hp:ι <+: ι'):∀{kvs:List (K3×D)}{ws:List (K3×Addr×V)},R.flats ι.length (kvs.map (·.2))=Γ->R3s K ι' H kvs ws->R3s K ι H kvs ws
 | [],_,_,r=>r| (k,d)::kvs,ws,f,r=>by obtain⟨c,v,w,e,r0,r1,r2⟩:=r;simp only[ϋ,R.flats,Α]at f;exact⟨c,v,w,e,r0,RV.restrict hp f.1 r1,R3s.restrict hp f.2 r2⟩
theorem RFs.flats:∀{a:List (Str×D)}{ws:List (Str×V)},RFs K ι H a ws->R.flats ι.length (a.map (·.2))=Γ
 | [],_,_=>by simp| (f,d)::r,_,h=>by obtain⟨v,w,_,b,c⟩:=h;simp only[ϋ,zel,Α];exact⟨RV.flat b,RFs.flats c⟩
theorem RFs.restrict(g:ι <+: a):∀{b:List (Str×D)}{ws:List (Str×V)},R.flats ι.length (b.map (·.2))=Γ->RFs K a H b ws->RFs K ι H b ws
 | [],_,_,h=>h| (f,d)::r,_,c,h=>by obtain⟨v,w,e,i,j⟩:=h;simp only[ϋ,zel,Α]at c;exact⟨v,w,e,RV.restrict g c.1 i,RFs.restrict g c.2 j⟩
theorem RO.up(h:RO K ι H a o)(f:ι <+: g)(i:Kp H H')(e:H' a=H a):RO K g H' a o:=by cases o with|lst p=>obtain⟨l,b,d⟩:=h;exact⟨l,e.trans b,d.up f i⟩|ins c q=>obtain⟨C,m,j,k,b,d⟩:=h;exact⟨C,m,j,k,e.trans b,d.up f i⟩|d3 n=>obtain⟨k,j,b,d⟩:=h;exact⟨k,j,e.trans b,d.up f i⟩
theorem RO.stay(h:RO K ι H a o)(x:Ext ι H b H')(e:H' a=H a):RO K b H' a o:=h.up x.pre x.kp e
section
variable{K:Frag}{ι ι':List Addr}{H H':Hp}{S S' T:St}{l:Nat}{a p:Addr}
theorem RH.mem(h:RH K ι H S)(e:S.get l=Φ o):∃a,ι[l]?=Φ a/\RO K ι H a o/\a∈ι:=by obtain⟨a,b,c⟩:=h.obj l o e;exact⟨a,b,c,mem_of_getElem? b⟩
theorem zlO(h:l<S.len):∃o,S.get l=Φ o:=by unfold St.len at h;unfold St.get;split;rename_i c;exact⟨_,Ε c⟩;exact⟨_,Ε (by omega)⟩
theorem RH.off(h:RH K ι H S)(x:Ext ι H ι H')(e:∀a∈ι,H' a=H a):RH K ι H' S:=⟨h.len,h.nd,λl o q=>let ⟨a,b,c,d⟩:=h.mem q;⟨a,b,c.stay x (e a d)⟩,x.kp.tab h.tab⟩
theorem RH.live(h:RH K ι H S)(j:a∈ι):∃o,H a=Φ o/\(∀xs,o≠.tup xs)/\(∀z u,o≠.frz z u)/\∀k,o≠.tbl k:=by
 obtain⟨l,g⟩:=List.mem_iff_getElem?.mp j;have d:l<S.len:=by rw[<-h.len];exact(Β.mp g).1
 obtain⟨o,e⟩:=zlO d;obtain⟨b,i,f⟩:=h.obj l o e;rw[g]at i;cases i;cases o with|lst r=>obtain⟨xs,q,_⟩:=f;exact⟨_,q,⟨λ_ z=>(by cases z),λ_ _ z=>(by cases z),λ_ z=>(by cases z)⟩⟩|ins c s=>obtain⟨C,t,m,_,q,_⟩:=f;exact⟨_,q,⟨λ_ z=>(by cases z),λ_ _ z=>(by cases z),λ_ z=>(by cases z)⟩⟩|d3 n=>obtain⟨_,m,q,_⟩:=f;exact⟨_,q,⟨λ_ z=>(by cases z),λ_ _ z=>(by cases z),λ_ z=>(by cases z)⟩⟩
theorem RH.fresh(h:RH K ι H S)(b:H p=Option.none):p∉ι:=λc=>by obtain⟨o,e,_⟩:=h.live c;rw[b]at e;exact nS e
theorem RH.notup(h:RH K ι H S)(b:H p=Φ (.tup xs)):p∉ι:=λc=>by obtain⟨o,e,q,_⟩:=h.live c;rw[b]at e;cases e;exact q _ rfl
theorem Kp.new(c:H p=Option.none)(o):Kp H (upd H p o):=.same (Tups.upd_new c) (λb z u e=>by rw[zak (zav e c)];exact e) λb d e=>by rw[zak (zav e c)];exact e
theorem Ext.new(b:H p=Option.none)(o):Ext ι H ι (upd H p o):=⟨prefix_refl _,Kp.new b o,λa u h e=>⟨.inl (by rw[zak (zav e b)];exact e),h⟩⟩
theorem RH.new(h:RH K ι H S)(b:H p=Option.none)(o):RH K ι (upd H p o) S:=h.off (Ext.new b o) λa c=>zak λe=>h.fresh b (e▸c)
theorem zhn(S:St)(o):(S.push o).get S.len=Φ o:=by
 have h:¬S.len<S.frz.length:=by unfold St.len;lia
 unfold St.get St.push;unfold St.len;simp
theorem zdI(h:l<S.len):(S.push o).get l=S.get l:=by unfold St.len at h;unfold St.get St.push;split;rfl;rw[getElem?_append_left (by lia)]
theorem zc4(S:St)(o):(S.push o).len=S.len+1:=by simp[St.push,St.len];lia
theorem Ext.obj(h:RH K ι H S)(b:H p=Option.none)(u):Ext ι H (ι++[p]) (upd H p u):=
 ⟨prefix_append _ _,Kp.new b u,λa o c e=>⟨.inl (by rw[zak (zav e b)];exact e),by
  intro z;rcases mem_append.mp z with z|z;exact c z;simp at z;exact zav e b z⟩⟩
theorem RH.obj'(h:RH K ι H S)(c:H p=Option.none)(u)(o)(g:RO K (ι++[p]) (upd H p u) p o):RH K (ι++[p]) (upd H p u) (S.push o):=by
 refine⟨by rw[length_append,h.len,zc4];rfl,?_,λl q e=>?_,(Kp.new c u).tab h.tab⟩;rw[nodup_append];refine⟨h.nd,by simp,λa i b f=>?_⟩;simp at f;subst f;exact λz=>h.fresh c (z▸i);by_cases j:l<S.len;rw[zdI j]at e;obtain⟨a,k,m,n⟩:=h.mem e;exact⟨a,zci (prefix_append _ _) k,m.stay (Ext.obj h c u) (zak λz=>h.fresh c (z▸n))⟩;have d:=get_lt e;rw[zc4]at d;have:l=S.len:=by lia
 subst this;rw[zhn]at e;cases e;exact⟨p,by rw[<-h.len];simp,g⟩
theorem RH.lay(h:RH K ι H S)(b:H p=Option.none)(r:RVs K ι H c xs):RH K (ι++[p]) (upd H p (.lst xs)) (S.push (.lst c)):=h.obj' b _ _ ⟨xs,zao,r.ext (Ext.obj h b _)⟩
theorem RH.last(h:RH K ι H S)(p):(ι++[p])[S.len]?=Φ p:=by rw[<-h.len];simp
theorem Ext.wr(h:RH K ι H S)(e:S.get l=Φ o)(f:ι[l]?=Φ a)(u):Ext ι H ι (upd H a u):=by have d:=mem_of_getElem? f;refine⟨prefix_refl _,.same (λb g c=>?_) (λb z v c=>?_) λb i c=>?_,λb o c e=>⟨.inl ((zak λ(z:b=a)=>c (by rw[z];exact d)).trans e),c⟩⟩;rw[zak];exact c;rintro rfl;exact h.notup c d;rw[zak];exact c;rintro rfl;obtain⟨o,e,_,q,_⟩:=h.live d;rw[c]at e;cases e;exact q _ _ rfl;rw[zak];exact c;rintro rfl;obtain⟨o,e,_,_,q⟩:=h.live d;rw[c]at e;cases e;exact q _ rfl
theorem znC(e:S.put l o=Φ S'):S'.len=S.len/\(l<S.len->S'.get l=Φ o)/\(∀m,m≠l->S'.get m=S.get m)/\S.frz.length<=l:=by unfold St.put at e;split at e;exact nS e;split at e;exact nS e;injection e with e;subst e;rename_i c1 c2;refine⟨by simp[St.len],λhl=>?_,λm hm=>?_,by lia⟩;unfold St.len at hl;unfold St.get;simp only[c1,if_false];rw[getElem?_set_self (by lia)];unfold St.get;split;rfl;rw[getElem?_set_ne (by lia)]
theorem RH.wr(h:RH K ι H S)(e:S.get l=Φ o)(d:ι[l]?=Φ a)(w:S.put l i=Φ S')(j:RO K ι (upd H a u) a i):RH K ι (upd H a u) S':=by obtain⟨k,n,q,_⟩:=znC w;refine⟨h.len.trans k.symm,h.nd,λm t c=>?_,(Ext.wr h e d u).kp.tab h.tab⟩;by_cases f:m=l;subst f;rw[n (get_lt e)]at c;cases c;exact⟨a,d,j⟩;rw[q m f]at c;obtain⟨b,g,r,_⟩:=h.mem c;refine⟨b,g,r.stay (Ext.wr h e d u) (zak ?_)⟩;rintro rfl;obtain⟨v,s⟩:=Β.mp d;obtain⟨x,c⟩:=Β.mp g;exact f ((List.getElem_inj h.nd).mp (c.trans s.symm))
end
end R
namespace R
open PySem PySem.Spec PyProof.Rows L2
variable[Mks]
theorem zgI(h:d3K S x=Φ a):∃l,x=.ref l/\S.get l=Φ (.d3 a):=by
 cases x with
 |ref l=>
  simp only[d3K]at h;cases e:S.get l with
  |none=>rw[e]at h;exact nS h
  |some o=>rw[e]at h;cases o with|d3 k=>cases h;exact⟨l,rfl,e⟩|_=>exact nS h
 |_=>exact nS h
theorem zgC{K}(r:RV K ι H y v)(h:key3 y=Φ k):∃c,v=.ref c/\Key3 H k c:=by
 unfold key3 at h;split at h;rename_i a g b;cases e:zaG g with
 |none=>rw[e]at h;exact nS h
 |some p=>rw[e]at h;cases h;obtain⟨c,u,rfl,i,j,w,rfl,l,x,z,rfl,m,n,o,rfl,q,s⟩:=r;cases(show o=[] from s);obtain rfl:j=.int a:=l;obtain⟨t,A,rfl,d,f⟩:=m;obtain rfl:n=.int b:=q;rw[zcA e]at f;rw[f.ints_eq]at d;exact⟨c,rfl,t,i,d⟩
 exact nS h
theorem zhl{K}(m:RH K ι H S)(hd:RV K ι H d x)(n:RV K ι H e y)(h:zfJ S d e=Φ k):
  (∃a b f c,y=.ref a/\H a=Φ (.ext (TriO a b))/\TriK H b/\x=.ref c/\Key3 H f c/\k=decide (f∈b.map (·.1)))\/((zct S e).bind λys=>inD S d ys)=Φ k:=by
 unfold zfJ at h;split at h;rename_i o p;left;obtain⟨l,rfl,q⟩:=zgI p;obtain⟨a,r,rfl⟩:=n;obtain⟨v,i,_,s,t,j⟩:=m.obj l _ q;rw[r]at i;cases i;cases g:key3 d with
 |none=>rw[g]at h;exact nS h
 |some f=>rw[g]at h;cases h;obtain⟨c,rfl,u⟩:=zgC hd g;exact⟨a,s,f,c,rfl,t,j.triK,rfl,u,by rw[j.keys]⟩
 exact .inr h
def Lf(K:Frag)(ι:List Addr)(H:Hp)(Q:D->R.St->Prop):VK:=λv b=>∃d a c,Ext ι H a b/\RV K a b d v/\RH K a b c/\Q d c
section
variable{K:Frag}{ι ι':List Addr}{H H':Hp}{S S':R.St}{Q:D->R.St->Prop}{d:D}{v:V}{p:Addr}
theorem Lf.of(h:RH K ι H S)(r:RV K ι H d v)(q:Q d S):Lf K ι H Q v H:=⟨d,ι,S,Ext.refl ι H,r,h,q⟩
theorem Lf.up(x:Ext ι H ι' H')(h:Lf K ι' H' Q v b):Lf K ι H Q v b:=by obtain⟨d,a,c,e,r⟩:=h;exact⟨d,a,c,x.trans e,r⟩
theorem Lf.tup(h:RH K ι H S)(a:H p=Option.none){b:List D}{xs:List V}(r:RVs K ι H b xs)(q:Q (.tup b) S):Lf K ι H Q (.ref p) (upd H p (.tup xs)):=⟨.tup b,ι,S,Ext.new a _,⟨p,xs,rfl,zao,r.ext (Ext.new a _)⟩,h.new a _,q⟩
theorem Lf.lst(h:RH K ι H S)(a:H p=Option.none){b:List D}{xs:List V}(r:RVs K ι H b xs)(q:Q (.ref S.len) (S.push (.lst b))):Lf K ι H Q (.ref p) (upd H p (.lst xs)):=⟨.ref S.len,ι++[p],S.push (.lst b),Ext.obj h a _,⟨p,h.last p,rfl⟩,h.lay a r,q⟩
theorem Lf.wr(h:RH K ι H S)(e:S.get l=Φ o)(b:ι[l]?=Φ a)(w:S.put l (.lst f)=Φ S')(r:RVs K ι H f xs)(c:RV K ι H d v)(q:Q d S'):Lf K ι H Q v (upd H a (.lst xs)):=⟨d,ι,S',Ext.wr h e b _,c.ext (Ext.wr h e b _),h.wr e b w ⟨xs,zao,r.ext (Ext.wr h e b _)⟩,q⟩
end
theorem zcd(h:W (lay S a) Q):a.length<=sizeLine/\Q (.ref S.len) (S.push (.lst a)):=by unfold lay at h;split at h;rename_i c;exact⟨by rw[ϔ];exact c,h⟩;exact h.elim
theorem zmO(h:W (wr S l a d) Q):a.length<=sizeLine/\∃S',S.put l (.lst a)=Φ S'/\Q d S':=by
 unfold wr at h;split at h;rename_i c;refine⟨by exact c,?_⟩;cases e:S.put l (.lst a) with|none=>rw[e]at h;exact h.elim|some S'=>rw[e]at h;exact⟨S',rfl,h⟩
 exact h.elim
def rD2(K:Frag)(f:R.St->D->D->Out D):R2:=λx y H g=>∃a S d e b,RV K a H d x/\RV K a H e y/\RH K a H S/\W (f S d e) b/\∀v c,Lf K a H b v c->g v c
section
variable{X:Cx}
theorem zlX{vs g:List Λ}(k:IsTup s.heap t vs.toArray)(l:IsTup s.heap b g.toArray)(m:vs=[])(o:Q (.ref b) s):wpAny (model prog w) A (binaryOp .Add (.ref t) (.ref b)) Q E s:=by
 obtain⟨⟨p,q,h,r⟩,i,u,n,v⟩:=id k;obtain⟨⟨j,c,data2,d⟩,a,e,x,f⟩:=id l;subst u v e f;exact concat_meets ⟨_,i,rfl⟩ ⟨_,a,rfl⟩ noFill_tuple_add seq_tuple_add PySem.F.slot_tuple_add PySem.F.entry_tuple_add (PySem.F.args_tuple_add_2 _ _)
  (tuple_addW0 t b vs.toArray g.toArray n x q c r d (by simp[m])) ⟨i,a,o⟩
theorem zlx:OpR X (binaryOp .Add) (λx y H Q=>∃a b ys,x=.ref a/\y=.ref b/\SqT X.K H a []/\SqT X.K H b ys/\Q (.ref b) H):=by intro c s n H x y v u Q I e f h;obtain⟨a,b,ys,rfl,rfl,g,i,q⟩:=h;cases e;cases f;obtain⟨j,k,l,_⟩:=I.tuple g;obtain⟨d,o,m,_⟩:=I.tuple i;exact zlX l m (k.nil_iff.mpr rfl) ⟨.ref b,H,I,rfl,q⟩
theorem zq3(op):OpR X (binaryOp op) (rD2 X.K λS d e=>binD S op d e):=by
 intro g s l H x y v u h I m n Y;obtain⟨ι,S,d,e,Qd,E,G,o,f,q⟩:=Y;dsimp only at f;unfold binD at f;split at f;rename_i i j;obtain rfl:x=.int i:=E;obtain rfl:y=.int j:=G;have fin:∀k:Int,Qd (.int k) S->h (.int k) H:=λk hk=>q _ _ (Lf.of (d:=.int k) o rfl hk);unfold binI at f;split at f;exact zqj g s l H _ _ v u h I m n ⟨i,j,rfl,rfl,fin _ f⟩;exact zqa g s l H _ _ v u h I m n ⟨i,j,rfl,rfl,fin _ f⟩;split at f;rename_i c;refine zqd g s l H _ _ v u h I m n ⟨i,j,rfl,rfl,?_,fin _ f⟩;unfold zjv at c;rw[or_eq_true,decide_eq_true_eq,decide_eq_true_eq]at c;exact c;exact f.elim;split at f;rename_i c;exact znS g s l H _ _ v u h I m n ⟨i,j,rfl,rfl,c,fin _ f⟩;exact f.elim;split at f;rename_i c;exact zqe g s l H _ _ v u h I m n ⟨i,j,rfl,rfl,c,fin _ f⟩;exact f.elim;split at f;rename_i c;exact zqb g s l H _ _ v u h I m n ⟨i,j,rfl,rfl,⟨c.1,c.2.1,by omega⟩,fin _ f⟩;exact f.elim;exact f.elim;rename_i J L;split at f;split at f;rename_i c;obtain⟨a,w,rfl,A,r⟩:=E;obtain⟨b,B,rfl,C,t⟩:=G;by_cases O:w=[];subst O;have M:J=[]:=by have:=r.length;simpa using this.symm
 subst M;refine zlx g s l H _ _ v u h I m n ⟨a,b,B,rfl,rfl,SqT.of A,SqT.of C,?_⟩;exact q _ _ (Lf.of (d:=.tup L) o ⟨b,B,rfl,C,t⟩ (by simpa using f));refine znT g s l H _ _ v u h I m n ⟨a,b,w,B,rfl,rfl,SqT.of A,SqT.of C,O,?_,λQ=>?_,λQ p N=>?_⟩;rw[r.length,t.length,ϔ];exact c;subst Q;have M:L=[]:=by have:=t.length;simpa using this.symm
 subst M;exact q _ _ (Lf.of (d:=.tup J) o ⟨a,w,rfl,A,r⟩ (by simpa using f));exact q _ _ (Lf.tup o N (r.append t) f);exact f.elim;exact f.elim;rename_i a b;split at f;rename_i J L e1 e2;obtain⟨a1,h1,rfl⟩:=E;obtain⟨b1,h2,rfl⟩:=G;obtain⟨a2,T,w,A,r⟩:=o.obj _ _ e1;obtain⟨b2,U,B,C,t⟩:=o.obj _ _ e2;rw[h1]at T;cases T;rw[h2]at U;cases U;obtain⟨z,hq⟩:=zcd f;refine zqi g s l H _ _ v u h I m n ⟨a1,b1,w,B,rfl,rfl,A,C,?_,λp N=>?_⟩;rw[r.length,t.length];rw[length_append]at z;exact z;exact q _ _ (Lf.lst o N (r.append t) hq);exact f.elim;exact f.elim
theorem zaF{a b:Type}{f:a->Option b}{x:a}{xs:List a}{ys:List b}(h:(x::xs).mapM f=Φ ys):∃y r,f x=Φ y/\xs.mapM f=Φ r/\ys=y::r:=by
 rw[mapM_cons]at h;cases e:f x with
 |none=>rw[e]at h;exact nS h
 |some y=>
  rw[e]at h;cases c:xs.mapM f with
  |none=>rw[c]at h;exact nS h
  |some r=>rw[c]at h;injection h with h;exact⟨y,r,rfl,rfl,h.symm⟩
theorem zh1(G:RH X.K ι H S):∀(n:Nat)(d:D)(j:PyData)(v:V),pd S n d=Φ j->RV X.K ι H d v->Rep H j v/\j.canLay0=Γ/\j.depth<=n:=by
 intro n;induction n with
 |zero=>
  intro d p v h r;cases d<;>simp only[pd]at h
  cases h;exact⟨r,rfl,le_refl _⟩;cases h;exact⟨r,rfl,le_refl _⟩;cases h;exact⟨r,rfl,le_refl _⟩;split at h;rename_i c;cases h;exact⟨r,c,le_refl _⟩;exact nS h
  all_goals exact nS h
 |succ n I=>
  have k:∀(g:List D)(f:List PyData)(t:List V),g.mapM (pd S n)=Φ f->RVs X.K ι H g t->RepAll H f t/\PyData.canLayAll0 f=Γ/\PyData.depthAll f<=n:=by
   intro g;induction g with
   |nil=>
    intro f t h r;have h:f=[]:=by simpa using h.symm
    subst h;exact⟨r,rfl,zero_le _⟩
   |cons d g z=>intro f t h r;obtain⟨y,m,A,u,rfl⟩:=zaF h;obtain⟨v,w,rfl,J,L⟩:=r;obtain⟨M,C,O⟩:=I d y v A J;obtain⟨o,q,E⟩:=z m w u L;refine⟨⟨v,w,rfl,M,o⟩,by simp[PyData.canLayAll0,C,q],?_⟩;simp only[PyData.depthAll];lia
  intro d p v h r;cases d with
  |non=>simp only[pd]at h;cases h;exact⟨r,rfl,zero_le _⟩|bl b=>simp only[pd]at h;cases h;exact⟨r,rfl,zero_le _⟩|int i=>simp only[pd]at h;cases h;exact⟨r,rfl,zero_le _⟩| str x=>simp only[pd]at h;split at h;rename_i c;cases h;exact⟨r,c,zero_le _⟩;exact nS h
  |tup g=>
   simp only[pd]at h;cases e:g.mapM (pd S n) with
   |none=>rw[e]at h;exact nS h
   |some f=>
    rw[e]at h;have h:PyData.tuple f=p:=by simpa using h
    subst h;obtain⟨a,s,rfl,B,m⟩:=r;obtain⟨o,q,E⟩:=k g f s e m;refine⟨⟨a,s,rfl,B,o⟩,by simp[PyData.canLay0,q],?_⟩;simp only[PyData.depth];lia
  |ref l=>
   simp only[pd]at h;split at h;rename_i g N;cases e:g.mapM (pd S n) with
   |none=>rw[e]at h;exact nS h
   |some f=>
    rw[e]at h;have h:PyData.list f=p:=by simpa using h
    subst h;obtain⟨a,A,rfl⟩:=r;obtain⟨C,u,s,B,m⟩:=G.obj _ _ N;rw[A]at u;cases u;obtain⟨o,q,E⟩:=k g f s e m;refine⟨⟨a,s,rfl,B,o⟩,by simp[PyData.canLay0,q],?_⟩;simp only[PyData.depth];lia
   exact nS h
  |fix g=>simp only[pd]at h;exact nS h
def rC2(K:Frag)(op:CmpOp):R2:=λx y H b=>∃a S d e k,RV K a H d x/\RV K a H e y/\RH K a H S/\cmpD S op d e=Φ k/\b (.bl k) H
theorem zht(h:eqD S d e=Φ k):∃a b,pd S 60 d=Φ a/\pd S 60 e=Φ b/\k=PyData.eqv a b:=by
 unfold eqD at h;cases c:pd S 60 d with
 |none=>rw[c]at h;exact nS h
 |some a=>
  rw[c]at h;cases f:pd S 60 e with
  |none=>rw[f]at h;exact nS h
  |some b=>rw[f]at h;injection h with h;exact⟨a,b,rfl,rfl,h.symm⟩
open Classical in
noncomputable def eqRd(h:Heap)(p:PyData)(u:Λ):Bool:=if c:∃q as,Reads h u q as/\q.canLay0=Γ then PyData.eqv c.choose p else Δ
theorem zou(r:Reads h u q as)(c:q.canLay0=Γ):eqRd h p u=PyData.eqv q p:=by have a:∃q as,Reads h u q as/\q.canLay0=Γ:=⟨q,as,r,c⟩;unfold eqRd;rw[dif_pos a];obtain⟨b,d,e⟩:=a.choose_spec;rw[SeqAt.Reads.unique _ _ _ _ _ c r d]
theorem zlJ(I:Inv X n σ H s)(hA:A.units+62<cLine)(o:RH X.K ι H S)(q:pd S 60 x=Φ c)(E:RV X.K ι H x g)(G:RelV g i):
  ∀{f:List D}{vs:List V}{us:List Λ}{bs:List Bool},RVs X.K ι H f vs->Vals vs us->f.mapM (λz=>eqD S z x)=Φ bs->us.any (eqRd s.heap c)=bs.any id/\∀u∈us,SeqAt.EqAt A s u i (eqRd s.heap c u):=by
 obtain⟨J,L,x3⟩:=zh1 o 60 x c g q E;obtain⟨j,k⟩:=Rep.reads I c g i J G;intro f;induction f with
 |nil=>
  intro vs us bs r l h;cases(show vs=[] from r);cases l;have h:bs=[]:=by simpa using h.symm
  subst h;exact⟨rfl,λu M=>by cases M⟩
 |cons d f N=>intro vs us bs r l h;obtain⟨v,w,rfl,O,Q⟩:=r;obtain⟨b,rr,e,T,rfl⟩:=zaF h;cases l with| cons U Y=>rename_i u us';obtain⟨a,b',e1,t,rfl⟩:=zht e;rw[q]at t;cases t;obtain⟨p1,y,p3⟩:=zh1 o 60 d a v e1 O;obtain⟨as,B⟩:=Rep.reads I a v u p1 U;have C:=zou (p:=c) B y;obtain⟨i1,i2⟩:=N Q Y T;refine⟨by simp[C,i1],λz m=>?_⟩;rcases mem_cons.mp m with rfl|m;rw[C];exact SeqAt.eqAt_reads a c A s z i as j B k y L (by lia);exact i2 z m
theorem zme(g:RH X.K ι H S)(h:zct S d=Φ i)(r:RV X.K ι H d v):∃a xs,v=.ref a/\(SqL X.K H a xs\/SqT X.K H a xs)/\RVs X.K ι H i xs:=by
 cases d with
 |tup j=>cases h;obtain⟨a,xs,rfl,b,c⟩:=r;exact⟨a,xs,rfl,.inr (SqT.of b),c⟩| fix j=>cases h;obtain⟨a,xs,rfl,b,c⟩:=r;exact⟨a,xs,rfl,.inl b.sq,c⟩| ref l=>simp only[zct]at h;split at h;rename_i k e;cases h;obtain⟨a,m,rfl⟩:=r;obtain⟨n,f,xs,b,c⟩:=g.obj _ _ e;rw[m]at f;cases f;exact⟨a,xs,rfl,.inl (SqL.of b),c⟩;exact nS h
 |_=>exact nS h
theorem zqO(h:inD S x ys=Φ k):∃bs,ys.mapM (λz=>eqD S z x)=Φ bs/\k=bs.any id:=by
 unfold inD at h;cases e:ys.mapM (λz=>eqD S z x) with
 |none=>rw[e]at h;exact nS h
 |some bs=>rw[e]at h;injection h with h;exact⟨bs,rfl,h.symm⟩
theorem zhg:∀(as bs:List Int),R.lexLt as bs=HT.lexLt as bs
 | [],[]=>by simp[R.lexLt,HT.lexLt]| [],_::_=>by simp[R.lexLt,HT.lexLt]|_::_,[]=>by simp[R.lexLt,HT.lexLt]|a::as,b::bs=>by simp[R.lexLt,HT.lexLt,zhg as bs]
theorem nonV{K}(hd:RV K ι H d x):decide (x=V.non)=zoe d:=by cases d with|non=>rw[show x=.non from hd];rfl|bl b=>rw[show x=.bl b from hd];rfl|int b=>rw[show x=.int b from hd];rfl|str b=>rw[show x=.str b from hd];rfl|tup b=>obtain⟨_,_,rfl,_⟩:=hd;rfl|ref b=>obtain⟨_,_,rfl⟩:=hd;rfl|fix b=>obtain⟨_,_,rfl,_⟩:=hd;rfl
theorem zeo(hu:X.A.units+128<cLine)(op):OpR X (compareOp op) (rC2 X.K op):=by
 intro g s B H x y v u C I m l q';obtain⟨ι,S,d,e,k,E,G,M,f,q⟩:=q';unfold cmpD at f;split at f;rename_i i j;obtain rfl:x=.int i:=E;obtain rfl:y=.int j:=G;unfold cmpI at f;split at f;cases f;exact zrT g s B H _ _ v u C I m l ⟨rfl,by simpa using q⟩;cases f;exact zrO g s B H _ _ v u C I m l ⟨rfl,by simpa using q⟩;cases f;exact zrP g s B H _ _ v u C I m l ⟨i,j,rfl,rfl,q⟩;cases f;exact zrQ g s B H _ _ v u C I m l ⟨i,j,rfl,rfl,q⟩;cases f;exact zrR g s B H _ _ v u C I m l ⟨i,j,rfl,rfl,q⟩;cases f;exact zrS g s B H _ _ v u C I m l ⟨i,j,rfl,rfl,q⟩;exact nS f;unfold cmpO at f;have N:∀(k:Bool),((zct S e).bind λys=>inD S d ys)=Φ k->∃a J,y=.ref a/\(SqL X.K H a J\/SqT X.K H a J)/\∃(L:PyData),∀us,Vals J us->us.any (eqRd s.heap L)=k/\∀z∈us,SeqAt.EqAt X.A.in1 s z v (eqRd s.heap L z):=by
  intro k h;cases es:zct S e with
  |none=>rw[es]at h;exact nS h
  |some ys=>
   rw[es]at h;obtain⟨bs,O,rfl⟩:=zqO (show inD S d ys=Φ k from h);obtain⟨a,J,rfl,o,rr⟩:=zme M es G;refine⟨a,J,rfl,o,?_⟩;cases Q:pd S 60 d with
   |some L=>exact⟨L,λus T=>zlJ I (show X.A.units+1+62<cLine by lia) M Q E m rr T O⟩| none=>
    cases ys with
    |nil=>
     refine⟨.none,λus T=>?_⟩;cases(show J=[] from rr);cases T;have O:bs=[]:=by simpa using O.symm
     subst O;exact⟨rfl,λz hz=>by cases hz⟩
    |cons z zs=>obtain⟨b,r,p,_⟩:=zaF O;obtain⟨_,_,_,h3,_⟩:=zht p;rw[Q]at h3;exact nS h3
 split at f;obtain⟨a,b,p,t,rfl⟩:=zht f;obtain⟨p1,p2,p3⟩:=zh1 M 60 d a x p E;obtain⟨q1,q2,q3⟩:=zh1 M 60 e b y t G;exact zqh (by lia) g s B H x y v u C I m l ⟨a,b,p1,q1,p2,q2,by lia,q⟩;cases A:eqD S d e with
 |none=>rw[A]at f;exact nS f
 |some k'=>
  rw[A]at f;obtain⟨a,b,p,t,rfl⟩:=zht A;obtain⟨p1,p2,p3⟩:=zh1 M 60 d a x p E;obtain⟨q1,q2,q3⟩:=zh1 M 60 e b y t G;have f:k = !PyData.eqv a b:=by simpa using f.symm
  subst f;exact zqc (by lia) g s B H x y v u C I m l ⟨a,b,p1,q1,p2,q2,by lia,q⟩
 split at f;obtain rfl:y=.non:=G;cases f;obtain rfl:u=Λ.none:=l;refine is_none_gen ⟨.bl _,H,I,rfl,?_⟩;rw[m.none_iff,nonV E];exact q;rename_i b _;split at f;rename_i a _;cases f;exact zqg g s B H _ _ v u C I m l ⟨a,b,E,G,q⟩;exact nS f;exact nS f;split at f;obtain rfl:y=.non:=G;cases f;obtain rfl:u=Λ.none:=l;refine isnot_none_gen ⟨.bl _,H,I,rfl,?_⟩;rw[m.none_iff,nonV E];exact q;exact nS f;rcases zhl M E G f with⟨a,kxs,kk,c,rfl,ha,tk,rfl,A,rfl⟩|f;cases(show u=Λ.ref a from l);cases(show v=Λ.ref c from m);exact zsk (by lia) I ha tk A λs3 I3=>⟨.bl _,H,I3,rfl,q⟩;obtain⟨a,J,rfl,o,L,Q⟩:=N _ f;cases(show u=Λ.ref a from l);rcases o with o|o;obtain⟨n,r,U,hz⟩:=I.list o;obtain⟨p,t⟩:=Q n r;exact SeqAt.in_listAt (eqRd s.heap L) U.isList (λw Y=>t w (by simpa using Y)) (zan I q (by simpa using p.symm));obtain⟨n,r,U,hz⟩:=I.tuple o;obtain⟨p,t⟩:=Q n r;exact SeqAt.in_tupleAt (eqRd s.heap L) U (λw Y=>t w (by simpa using Y)) (zan I q (by simpa using p.symm));cases A:zfJ S d e with
 |none=>rw[A]at f;exact nS f
 |some k'=>
  rw[A]at f;have f:k = !k':=by simpa using f.symm
  subst f;rcases zhl M E G A with⟨a,kxs,kk,c,rfl,ha,tk,rfl,h3,rfl⟩|A;cases(show u=Λ.ref a from l);cases(show v=Λ.ref c from m);exact zlU (by lia) I ha tk h3 λs3 I3=>⟨.bl _,H,I3,rfl,q⟩;obtain⟨a,J,rfl,o,L,Q⟩:=N k' A;cases(show u=Λ.ref a from l);rcases o with o|o;obtain⟨n,r,U,hz⟩:=I.list o;obtain⟨p,t⟩:=Q n r;exact SeqAt.notIn_listAt (eqRd s.heap L) U.isList (λw Y=>t w (by simpa using Y)) (zan I q (by simpa using congrArg (!·) p.symm));obtain⟨n,r,U,hz⟩:=I.tuple o;obtain⟨p,t⟩:=Q n r;exact SeqAt.notIn_tupleAt (eqRd s.heap L) U (λw Y=>t w (by simpa using Y)) (zan I q (by simpa using congrArg (!·) p.symm))
 split at f;rename_i J ys _;cases e1:zaG J with
 |none=>rw[e1]at f;exact nS f
 |some ns=>
  cases e2:zaG ys with
  |none=>rw[e1,e2]at f;exact nS f
  |some ms=>
   rw[e1,e2]at f;have f:k=lexLt ns ms:=by simpa using f.symm
   subst f;obtain⟨a,us,rfl,ha,r1⟩:=E;obtain⟨b,ws,rfl,O,r2⟩:=G;rw[zcA e1]at r1;rw[zcA e2]at r2;rw[r1.ints_eq]at ha;rw[r2.ints_eq]at O;exact zqf (by lia) g s B H _ _ v u C I m l ⟨a,b,ns,ms,rfl,rfl,SqT.of ha,SqT.of O,by rw[<-zhg];exact q⟩
 exact nS f;exact nS f
end
set_option backward.match.sparseCases false
noncomputable def zai:Expr->Bool|.Starred _ _=>Δ|_=>Γ
noncomputable def zbK:Expr->Bool|.ListComp ..=>Δ|.SetComp ..=>Δ|.DictComp ..=>Δ|_=>Γ
noncomputable def zeO:Expr->Bool|.Slice ..=>Δ|_=>Γ
noncomputable def zaQ:Expr->Bool|.Set ..=>Δ|_=>Γ
noncomputable def zbz:Expr->Bool|.Call (.Name _ _) [] [] _=>Δ|_=>Γ
noncomputable def zg8:Expr->Bool|.UnaryOp .Not _ _=>Δ|.BoolOp ..=>Δ|.IfExp ..=>Δ|.Compare ..=>Δ|_=>Γ
set_option backward.match.sparseCases true
theorem zaj(h:zai e=Γ)(es)(env):starEach (e::es) env=(Δ,eval e env)::starEach es env:=by cases e<;>first|rfl|exact nB h
theorem zgd(h:zbK e=Γ)(t)(l)(env):swapsWith e t l env=pure Δ:=by cases e<;>first|rfl|exact nB h
theorem zr3(h:zeO e=Γ):zkJ e:=by intro o i;cases e<;>first|rfl|exact nB h
theorem zeR(h:zaQ e=Γ)(op):behindInMarks op e=Δ:=by cases e<;>first|rfl|exact nB h
theorem zd8(h:zbz e=Γ)(x)(env)(w):attributeBase e x env w=w:=by cases e<;>(try rfl);rename_i f a k _;cases f<;>(try rfl);cases a<;>(try rfl);cases k<;>(try rfl);exact nB h
theorem zoX(h:zg8 e=Γ)(env)(w):isTrue e env w=(do let v <-w;standAt e.pos;holding [v] (truthy v)):=by
 cases e with
 |UnaryOp a x p=>cases a<;>first|rfl|exact nB h
 |_=>first|rfl|exact nB h
theorem zgE(h:zaQ e=Γ)(env)(x):foldedSetIterable e env x=pure x:=by cases e<;>first|rfl|exact nB h
theorem zbn:∀{es:List Expr},es.all zai=Γ->(backTo pos (starEach es env)).any (·.1)=Δ
 | [],_=>rfl| e::es,h=>by rw[all_cons,Α]at h;rw[zaj h.1];exact zbn h.2
def BM(b:Str->Option Λ)(base:Heap):Prop:=∃(a:Addr) (o:Obj),b "__builtins__"=Φ (.ref a)/\a≠builtinsNs/\a≠mainGlobals/\base.get? a=Φ o/\o.cls=.type "module"/\o.dict=Φ builtinsNs/\o.data=.plain
structure Maker(X:Cx)(c P:Addr):Prop where
 bm:BM X.mg X.base
 code:X.env.code=.ref c
 hd:PySem.W.codeHdIn X.K c P=Γ
 mem:(P,X.env.qual ++ "<lambda>")∈Mks.ts
 one:∀p∈Mks.ts,p.1=P->p.2=X.env.qual ++ "<lambda>"
structure Tab where
 blt:List Str
 cons:List (Str×D)
 fns:List (Str×List Str×Nat)
 cls:List Str:=[]
 flds:List Str:=[]
 mts:List (Nat×Str×Nat):=[]
 inits:List (Nat×Nat×Nat):=[]
 cms:List (Str×Str×Nat):=[]
 isas:List (Str×List Nat):=[]
 lam:List Str:=["lambda"]
 lamP:Nat:=0
noncomputable def zlH(a:Scope)(x:Str):Bool:=match a.names.lookup x with|some .local=>Γ|some .cell=>Γ|some .free=>Γ|_=>Δ
noncomputable def zfG(a:Scope)(x:Str):Bool:=match a.names.lookup x with|some .local=>Γ|some .cell=>Γ|_=>Δ
noncomputable def isGl(a:Scope)(x:Str):Bool:=match a.names.lookup x with|some .globalImplicit=>Γ|_=>Δ
noncomputable def eqC:D->D->Bool
 |.non,.non=>Γ|.bl a,.bl b=>a==b|.int a,.int b=>a==b|.str a,.str b=>a==b|_,_=>Δ
theorem zqX:∀{d e:D},eqC d e=Γ->d=e:=by intro d e h;cases d<;>cases e<;>first|rfl|(cases eq_of_beq h;rfl)|exact nB h
noncomputable def sV:D->V
 |.non=>.non|.bl b=>.bl b|.int i=>.int i|.str x=>.str x|_=>.non
noncomputable def znn:D->Bool
 |.non=>Γ|.bl _=>Γ|.int _=>Γ|.str _=>Γ|_=>Δ
theorem zrB{K}(h:znn d=Γ):RV K ι H d (sV d):=by cases d<;>first|rfl|exact nB h
noncomputable def conB:D->Const->Bool
 |.non,.none=>Γ|.bl a,.bool b=>a==b|.int a,.int b=>a==b|.str a,.str b=>a==b|_,_=>Δ
noncomputable def bltB(T:Tab)(a:Scope)(x:Str):Bool:=isGl a x&&T.blt.contains x
def spF(K:Frag)(cf:CF)(f:Nat):Sp:=λg H h _=>∃c S e,RVs K c H e g/\RH K c H S/\W (cf f e S) (λd T=>∀v b a,Ext c H a b->RV K a b d v->RH K a b T->h v b)
structure HasM(P:Τ)(w:ϐ)(K:Frag)(mg:Str->Option Λ)(base:Heap)(k c:Nat)(m:Str)(sp:Sp):Prop where
 ex:∃(C fa:Addr) (fd:FuncData) (ps:List Str),Mks.cl[c]?=Φ C/\Cls K C/\Meth K C m fa/\FnOk P w K mg base CX0 k fa fd ps sp/\Binds K fd ps []
structure HasI(P:Τ)(w:ϐ)(K:Frag)(mg:Str->Option Λ)(base:Heap)(k c j:Nat)(sp:Sp):Prop where
 ex:∃(C fa:Addr) (fd:FuncData) (ps:List Str),Mks.cl[c]?=Φ C/\Mk K C fa/\FnOk P w K mg base CX0 k fa fd ps sp/\Binds K fd ps (List.replicate j Λ.none)
structure HasC(P:Τ)(w:ϐ)(K:Frag)(mg:Str->Option Λ)(base:Heap)(k:Nat)(x m:Str)(sp:Sp):Prop where
 ex:∃(C fa:Addr) (fd:FuncData) (ps:List Str) (mc:Λ),mg x=Φ (.ref C)/\specialIn K (.ref C) "__getattribute__"=Φ (Φ (.builtin "type.__getattribute__"))/\readsIn K C mc=Γ/\findCls K (.ref C) mc m=Φ (.val (.ref fa))/\
  keepIn K (.ref fa)=Γ/\FnOk P w K mg base CX0 k fa fd ps sp/\Binds K fd ps []
structure IsaOk(K:Frag)(C:Addr):Prop where
 ha:findIn K (.ref C) "__class__"=Φ (Φ (.builtin "object.__class__"))
 hn:specialIn K (.builtin "object.__class__") "__get__"=Φ (Φ (.builtin "getset_descriptor.__get__"))
 ht:takesIn K (.builtin "object.__class__")=Φ Γ
 hm:mroIn K C (.type "object")=Φ Γ
structure TabOk(T:Tab)(cf:CF)(k:Nat)(P:Τ)(w:ϐ)(K:Frag)(mg:Str->Option Λ)(base:Heap):Prop where
 blt:∀x,T.blt.contains x=Γ->mg x=Ψ
 con:∀x d,T.cons.lookup x=Φ d->znn d=Γ/\∃u,mg x=Φ u/\RelV (sV d) u
 fns:∀f x ps nd,T.fns[f]?=Φ (x,ps,nd)->∀j,j<=nd->Has P w K mg base k x ps (List.replicate j .non) (spF K cf f)
 frm:CFok cf
 cls:∀(c:Nat)(x:Str),T.cls[c]?=Φ x->∃C,Mks.cl[c]?=Φ C/\Cls K C/\mg x=Φ (.ref C)/\∀f,T.flds.contains f=Γ->NoAttr K C f
 mth:∀(c:Nat)(m:Str)(fi:Nat),T.mts.contains (c,m,fi)=Γ->HasM P w K mg base k c m (spF K cf fi)
 ini:∀(c fi j:Nat),T.inits.contains (c,fi,j)=Γ->HasI P w K mg base k c j (spF K cf fi)
 cmd:∀(x m:Str)(fi:Nat),T.cms.contains (x,m,fi)=Γ->HasC P w K mg base k x m (spF K cf fi)
 cln:(T.flds≠[]\/T.inits≠[]\/T.isas≠[])->Mks.cl.length<=T.cls.length
 isa:∀(x:Str)(cs:List Nat),T.isas.contains (x,cs)=Γ->∃D,mg x=Φ (.ref D)/\∀c C,Mks.cl[c]?=Φ C->IsaOk K C/\kitOne K (.ref C) (.ref D)=Φ (cs.contains c)
structure Gd(T:Tab)(cf:CF)(k:Nat)(N:List Str)(sc:Scope)(X:Cx):Prop where
 nm:X.N=N
 nd:N.Nodup
 loc:∀x,sc.names.lookup x=Φ .local->X.env.scope.names.lookup x=Φ .local
 cell:∀x,sc.names.lookup x=Φ .cell->X.env.scope.names.lookup x=Φ .cell
 free:∀x,sc.names.lookup x=Φ .free->X.env.scope.names.lookup x=Φ .free\/X.env.scope.names.lookup x=Φ .cell
 glob:∀x,sc.names.lookup x=Φ .globalImplicit->X.env.scope.names.lookup x=Φ .globalImplicit
 fn:(∀x,X.fn x=Γ)\/∀x,sc.names.lookup x≠Φ .cell
 calm:X.calm=Γ
 xe:X.xe=λ_ _=>False
 room':Room (k+1) X.A
 tab:TabOk T cf k X.prog X.w X.K X.mg X.base
 lam:N=T.lam->3<=k/\∃c,Maker X c T.lamP
section
variable{T:Tab}{cf:CF}{k:Nat}{N:List Str}{sc:Scope}{X:Cx}
theorem Gd.room(G:Gd T cf k N sc X):Room k X.A:=G.room'.mono (le_succ k)
theorem Gd.hu(G:Gd T cf k N sc X):X.A.units+128<cLine:=by have:=G.room.un;lia
theorem Gd.vis(G:Gd T cf k N sc X)(h:zlH sc x=Γ):Vis X.env.scope x:=by unfold zlH at h;split at h;rename_i e;exact .inl (G.loc x e);rename_i e;exact .inr (.inl (G.cell x e));rename_i e;rcases G.free x e with q|q;exact .inr (.inr q);exact .inr (.inl q);exact nB h
theorem Gd.lc(G:Gd T cf k N sc X)(h:zfG sc x=Γ):Loc X.env.scope x/\(X.fn x=Γ\/X.env.scope.names.lookup x=Φ .local):=by unfold zfG at h;split at h;rename_i e;exact⟨.inl (G.loc x e),.inr (G.loc x e)⟩;rename_i e;refine⟨.inr (G.cell x e),?_⟩;rcases G.fn with q|q;exact .inl (q x);exact absurd e (q x);exact nB h
theorem Gd.gl(G:Gd T cf k N sc X)(h:isGl sc x=Γ):Gl X x:=by unfold isGl at h;split at h;rename_i e;exact G.glob x e;exact nB h
end
def RS(K:Frag)(ι:List Addr)(H:Hp)(δ:Ev)(σ:L2.St):Prop:=δ.length=σ.length/\∀(i:Nat)(d:D),δ[i]?=Φ (Φ d)->∃v,σ[i]?=Φ (Φ v)/\RV K ι H d v
theorem RS.ext{K}(h:RS K ι H δ a)(x:Ext ι H ι' H'):RS K ι' H' δ a:=⟨h.1,λi d e=>let ⟨v,b,r⟩:=h.2 i d e;⟨v,b,r.ext x⟩⟩
theorem RS.set{K}(h:RS K ι H δ f)(r:RV K ι H d v)(i):RS K ι H (δ.set i (Φ d)) (f.set i (Φ v)):=by
 refine⟨by simp[h.1],λj e b=>?_⟩;by_cases a:i=j;subst a;have c:i<δ.length:=by have:=(Β.mp b).1;simpa using this
 rw[getElem?_set_self c]at b;cases b;exact⟨v,getElem?_set_self (by rw[<-h.1];exact c),r⟩;rw[getElem?_set_ne a]at b;obtain⟨g,k,l⟩:=h.2 j e b;exact⟨g,by rw[getElem?_set_ne a];exact k,l⟩
def tE(K:Frag)(cf:CF)(d:CE):TE:=λe H f=>∃b a S Q,RS K a H b e/\RH K a H S/\W (evE cf d b S) Q/\∀v c,Lf K a H Q v c->f v c
def LfB(K:Frag)(ι:List Addr)(H:Hp)(Q:Bool->R.St->Prop):Bool->Hp->Prop:=λb c=>∃a d,Ext ι H a c/\RH K a c d/\Q b d
def tT(K:Frag)(cf:CF)(e:CE):TT:=λf H g=>∃c a S Q,RS K a H c f/\RH K a H S/\W (evT cf e c S) Q/\∀b d,LfB K a H Q b d->g b d
def LfA(K:Frag)(ι:List Addr)(H:Hp)(Q:List D->R.St->Prop):List V->Hp->Prop:=λe b=>∃c a d,Ext ι H a b/\RVs K a b c e/\RH K a b d/\Q c d
def tAs(K:Frag)(cf:CF)(a:CEs):TA:=λf H g=>∃c b S Q,RS K b H c f/\RH K b H S/\W (evEs cf a c S) Q/\∀d e,LfA K b H Q d e->g d e
inductive SqK(K:Frag)(ι:List Addr)(H:Hp)(S:R.St)(a:Addr)(xs:List V)(ds:List D)(lks:List Nat):Prop where
 |tmp (h:a∉ι) (e:H a=Φ (.lst xs)):SqK K ι H S a xs ds lks
 |tup (e:H a=Φ (.tup xs)):SqK K ι H S a xs ds lks
 |fix (e:FixL K H a xs):SqK K ι H S a xs ds lks
 |own (l:Nat) (hl:l∈lks) (hi:ι[l]?=Φ a) (hs:S.get l=Φ (.lst ds)) (e:H a=Φ (.lst xs)):SqK K ι H S a xs ds lks
def Sq(K:Frag)(ι:List Addr)(H:Hp)(S:R.St)(v:V)(c:List D)(b:List Nat):Prop:=∃a d,v=.ref a/\RVs K ι H c d/\SqK K ι H S a d c b
def LfL(K:Frag)(ι:List Addr)(H:Hp)(Q:List D×List Nat->R.St->Prop):VK:=λv c=>∃e b a d,Ext ι H a c/\Sq K a c d v e b/\RH K a c d/\Q (e,b) d
def tL(K:Frag)(cf:CF)(cl:CL):TE:=λd H e=>∃b a S Q,RS K a H b d/\RH K a H S/\W (evL cf cl b S) Q/\∀v c,LfL K a H Q v c->e v c
def LfT(K:Frag)(ι:List Addr)(H:Hp)(Q:List D×List Nat->R.St->Prop):VK:=λv c=>∃d b e a f,Ext ι H b c/\v=.ref a/\RVs K b c d f/\a∉b/\c a=Φ (.lst f)/\RH K b c e/\H a=Ψ/\Q (d,[]) e
def tLt(K:Frag)(cf:CF)(cl:CL):TE:=λd H e=>∃b a S Q,RS K a H b d/\RH K a H S/\W (evL cf cl b S) Q/\∀v c,LfT K a H Q v c->e v c
theorem LfT.l{K}(h:LfT K ι H Q v H'):LfL K ι H Q v H':=by obtain⟨b,i,c,a,d,x,rfl,r,f,e,g,_,q⟩:=h;exact⟨b,[],i,c,x,⟨a,d,rfl,r,.tmp f e⟩,g,q⟩
theorem PE.imp(h:PE X e t)(i:∀a H Q,t' a H Q->t a H Q):PE X e t':=λb s a H Q I q=>h b s a H Q I (i a H Q q)
theorem PT.imp(h:PT X e t)(i:∀a H Q,t' a H Q->t a H Q):PT X e t':=λb s a H Q I q=>h b s a H Q I (i a H Q q)
theorem PW.imp(h:PW X e t)(i:∀a H Q,t' a H Q->t a H Q):PW X e t':=λc b s a H Q I q=>h c b s a H Q I (i a H Q q)
theorem PA.imp(h:PA X es t)(i:∀a H Q,t' a H Q->t a H Q):PA X es t':=λpos b s a H Q I q=>h pos b s a H Q I (i a H Q q)
theorem tE.run{K}(j:RS K ι H δ e)(f:RH K ι H S)(w:W (evE cf a δ S) Q)(h:∀d v i H' b,Ext ι H i H'->RS K i H' δ e->RH K i H' b->RV K i H' d v->Q d b->g v H'):tE K cf a e H g:=
 ⟨δ,ι,S,Q,j,f,w,λv H' z=>(by obtain⟨d,i,b,x,r,c,q⟩:=z;exact h d v i H' b x (j.ext x) c r q)⟩
theorem tT.run{K}(j:RS K ι H δ e)(f:RH K ι H S)(w:W (evT cf a δ S) Q)(h:∀b i H' c,Ext ι H i H'->RS K i H' δ e->RH K i H' c->Q b c->g b H'):tT K cf a e H g:=
 ⟨δ,ι,S,Q,j,f,w,λb H' z=>(by obtain⟨i,c,x,d,q⟩:=z;exact h b i H' c x (j.ext x) d q)⟩
theorem tAs.run{K}(j:RS K ι H δ e)(f:RH K ι H S)(w:W (evEs cf a δ S) Q)(h:∀k vs i H' b,Ext ι H i H'->RS K i H' δ e->RH K i H' b->RVs K i H' k vs->Q k b->g vs H'):tAs K cf a e H g:=
 ⟨δ,ι,S,Q,j,f,w,λv H' z=>(by obtain⟨d,i,b,x,r,c,q⟩:=z;exact h d v i H' b x (j.ext x) c r q)⟩
theorem PE.ofT(h:PE X e (tLt X.K cf cl)):PE X e (tL X.K cf cl):=PE.imp h λd H f z=>(by obtain⟨a,g,S,Q,b,c,w,q⟩:=z;exact ⟨a,g,S,Q,b,c,w,λv i l=>q v i l.l⟩)
theorem tLt.run{K}(n:RS K ι H δ d)(f:RH K ι H S)(w:W (evL cf a δ S) Q)(h:∀m p xs l H' b,Ext ι H l H'->RS K l H' δ d->RH K l H' b->RVs K l H' m xs->p∉l->H' p=Φ (.lst xs)->H p=Ψ->Q (m,[]) b->g (.ref p) H'):tLt K cf a d H g:=
 ⟨δ,ι,S,Q,n,f,w,λv H' z=>(by obtain⟨m,l,b,p,xs,x,e,r,i,j,c,k,q⟩:=z;exact e▸h m p xs l H' b x (n.ext x) c r i j k q)⟩
theorem tL.run{K}(k:RS K ι H δ e)(f:RH K ι H S)(w:W (evL cf a δ S) Q)(h:∀j b v i H' c,Ext ι H i H'->RS K i H' δ e->RH K i H' c->Sq K i H' c v j b->Q (j,b) c->g v H'):tL K cf a e H g:=
 ⟨δ,ι,S,Q,k,f,w,λv H' z=>(by obtain⟨j,b,i,c,x,r,d,q⟩:=z;exact h j b v i H' c x (k.ext x) d r q)⟩
section
variable{T:Tab}{cf:CF}{k:Nat}{N:List Str}{sc:Scope}{X:Cx}{pos:Pos}
theorem ziv(h:W o Q):∃a S,o=.ok a S/\Q a S:=W.iff.mp h
theorem zau(h:W (lift S o) Q):∃a,o=Φ a/\Q a S:=by cases o with|none=>exact h.elim|some a=>exact⟨a,rfl,h⟩
theorem zpo(G:Gd T cf k N sc X)(b:N[i]?=Φ x)(c:zlH sc x=Γ)(f:(x==("__debug__":Str))=Δ)(g:(x==("__classdict__":Str))=Δ):PE X (.Name x pos) (tE X.K cf (.loc i)):=by
 refine PE.imp (zpW (by rw[G.nm];exact b) (G.vis c) f g) λp H s y=>?_;obtain⟨a,t,S,Q,h,j,w,q⟩:=y;obtain⟨d,e,l⟩:=zau w;have m:a[i]?=Φ (Φ d):=by
  cases z:a[i]? with
  |none=>rw[z]at e;exact nS e
  |some o=>rw[z]at e;simp at e;rw[e]
 obtain⟨v,n,r⟩:=h.2 i d m;exact⟨v,n,q v H (Lf.of j r l)⟩
theorem zps(h:conB d c=Γ):PE X (.Constant c j pos) (tE X.K cf (.con d)):=by
 have key:∀{v:V},PE X (.Constant c j pos) (tC v)->(∀K ι H,RV K ι H d v)->PE X (.Constant c j pos) (tE X.K cf (.con d)):=λ{v} hp hr=>PE.imp hp λσ H Qv z=>(by obtain⟨δ,ι,S,Q,hs,hh,w,q⟩:=z;exact q v H (Lf.of hh (hr _ _ _) w))
 cases d<;>cases c<;>first
  |exact key zp1 λ_ _ _=>rfl
  |exact nB h
  |(cases eq_of_beq h;exact key zp3 λ_ _ _=>rfl)
  |(cases eq_of_beq h;exact key zrN λ_ _ _=>rfl)
  |(cases eq_of_beq h;exact key zpY λ_ _ _=>rfl)
theorem znk(G:Gd T cf k N sc X)(b:isGl sc x=Γ)(c:T.cons.lookup x=Φ d')(f:eqC d' d=Γ)(g:(x==("__debug__":Str))=Δ):PE X (.Name x pos) (tE X.K cf (.con d)):=by have e:=zqX f;subst e;obtain⟨a,u,h,r⟩:=G.tab.con x d' c;exact PE.imp (znN (G.gl b) h r g) λj H l z=>(by obtain⟨m,n,S,Q,o,i,w,q⟩:=z;exact q (sV d') H (Lf.of i (zrB a) w))
theorem zpu(j:PE X a (tE X.K cf m))(n:PE X b (tE X.K cf o)):PE X (.BinOp a op b pos) (tE X.K cf (.bin op m o)):=by refine PE.imp (zrK (zq3 op) j n) λI H J k=>?_;obtain⟨L,M,S,Q,p,r,w,q⟩:=k;change W (Out.bind _ _) _ at w;simp only[zab] at w;exact tE.run p r w λd v s O U t c f x y=>tE.run c f y λe u g Y A i B h C E=>⟨g,A,d,e,Q,x.ext i,C,h,E,λz G l=>q z G (Lf.up (t.trans i) l)⟩
theorem zpk(e:PE X a (tE X.K cf f)):PE X (.UnaryOp .USub a pos) (tE X.K cf (.neg f)):=by refine PE.imp (zrI zoT e) λo H p z=>?_;obtain⟨r,s,S,Q,g,h,w,q⟩:=z;change W (Out.bind _ _) _ at w;simp only[zab] at w;refine tE.run g h w λd v j t u l m b n c=>?_;cases d with| int i=>obtain rfl:v=.int i:=n;exact⟨i,rfl,q _ _ (Lf.up l (Lf.of (d:=.int (-i)) b rfl c))⟩|_=>exact c.elim
theorem zrw(e:PE X a (tE X.K cf f)):PE X (.UnaryOp .Not a pos) (tE X.K cf (.nt f)):=by refine PE.imp (zp0 e) λo H p z=>?_;obtain⟨r,s,S,Q,g,h,w,q⟩:=z;change W (Out.bind _ _) _ at w;simp only[zab] at w;refine tE.run g h w λd v j t u l m b n c=>?_;cases d with| bl i=>obtain rfl:v=.bl i:=n;exact⟨i,rfl,q _ _ (Lf.up l (Lf.of (d:=.bl (!i)) b rfl c))⟩|_=>exact c.elim
theorem zpt(G:Gd T cf k N sc X)(l:PE X a (tE X.K cf m))(f:PE X b (tE X.K cf n))(o:zaQ b=Γ):PE X (.Compare a [op] [b] pos) (tE X.K cf (.cmp op m n)):=by refine PE.imp (znO (zeo G.hu op) l f (zeR o op)) λJ H L z=>?_;obtain⟨M,O,S,Q,p,r,w,q⟩:=z;change W (Out.bind _ _) _ at w;simp only[zab] at w;refine tE.run p r w λd v s U Y t g h x y=>tE.run g h y λe u i H2 A j B c C E=>?_;obtain⟨b,f,I⟩:=zau E;exact⟨i,A,d,e,b,x.ext j,C,c,f,q _ _ (Lf.up (t.trans j) (Lf.of (d:=.bl b) c rfl I))⟩
theorem zpa(G:Gd T cf k N sc X)(m:PE X a (tE X.K cf n))(g:PE X b (tE X.K cf o))(p:zaQ b=Γ):PT X (.Compare a [op] [b] pos) (tT X.K cf (.cmp op n o)):=by refine PT.imp (znF (zeo G.hu op) m g (zeR p op)) λJ H L z=>?_;obtain⟨M,O,S,Q,r,s,w,q⟩:=z;change W (Out.bind _ _) _ at w;simp only[zab] at w;refine tE.run r s w λd v t U Y x h i y A=>tE.run h i A λe u c H2 j l B f C E=>?_;obtain⟨b,g,I⟩:=zau E;exact⟨c,j,d,e,b,y.ext l,C,f,g,b,rfl,q _ _ ⟨c,j,x.trans l,f,I⟩⟩
theorem znl(G:Gd T cf k N sc X)(A:PE X a (tE X.K cf B))(g:PE X b (tE X.K cf C))(E:PE X c (tE X.K cf I))(hm:zaQ b=Γ)(j:zaQ c=Γ):
  PE X (.Compare a [op,h] [b,c] pos) (tE X.K cf (.cmp2 op h B C I)):=by
 refine PE.imp (zlv (zeo G.hu op) (zeo G.hu h) A g E (by simp[lastMarks,zeR j])) λσ H Qv z=>?_;obtain⟨δ,ι,S,Q,J,L,w,q⟩:=z;change W (Out.bind _ _) _ at w;simp only[zab] at w;refine tE.run J L w λd v M H1 S1 t l m O U=>tE.run l m U λe u n H2 Y o p f x w2=>?_;obtain⟨b,g,r⟩:=zau w2;refine⟨n,Y,d,e,b,O.ext o,x,f,g,b,rfl,?_⟩;cases b with|false=>exact q _ _ (Lf.up (t.trans o) (Lf.of (d:=.bl Δ) f rfl r))| true=>simp only[if_true,zab]at r⊢;refine tE.run p f r λe' u' s H3 S3 y hs3 i r3 w4=>?_;obtain⟨b,g,w5⟩:=zau w4;exact⟨s,S3,e,e',b,x.ext y,r3,i,g,q _ _ (Lf.up ((t.trans o).trans y) (Lf.of (d:=.bl b) i rfl w5))⟩
theorem zm1(G:Gd T cf k N sc X)(C:PE X a (tE X.K cf E))(g:PE X b (tE X.K cf I))(J:PE X c (tE X.K cf L))(hm:zaQ b=Γ)(m:zaQ c=Γ):
  PT X (.Compare a [op,h] [b,c] pos) (tT X.K cf (.cmp2 op h E I L)):=by
 refine PT.imp (zlf (zeo G.hu op) (zeo G.hu h) C g J (by simp[lastMarks,zeR m])) λσ H Qv z=>?_;obtain⟨δ,ι,S,Q,M,O,w,q⟩:=z;change W (Out.bind _ _) _ at w;simp only[zab] at w;refine tE.run M O w λd v U H1 S1 t n o Y w1=>tE.run n o w1 λe u i H2 x p r f y w2=>?_;obtain⟨b,g,s⟩:=zau w2;refine⟨i,x,d,e,b,Y.ext p,y,f,g,b,rfl,?_⟩;cases b with|false=>exact⟨Δ,rfl,q _ _ ⟨i,x,t.trans p,f,s⟩⟩| true=>simp only[if_true,zab]at s⊢;refine tE.run r f s λe' u' j H3 A B hs3 l r3 w4=>?_;obtain⟨b,g,w5⟩:=zau w4;exact⟨j,A,e,e',b,y.ext B,r3,l,g,b,rfl,q _ _ ⟨j,A,(t.trans p).trans B,l,w5⟩⟩
theorem zmg(j:PE X a (tE X.K cf m))(n:PE X (.BoolOp .And (b::rest) pos) (tE X.K cf o)):PE X (.BoolOp .And (a::b::rest) pos) (tE X.K cf (.and m o)):=by
 refine PE.imp (zp7 j n) λy H A k=>?_;obtain⟨p,B,S,Q,r,s,w,q⟩:=k;change W (Out.bind _ _) _ at w;simp only[zab] at w;refine tE.run r s w λd v f C t i g e u h=>?_;cases d with
 |bl c=>obtain rfl:v=.bl c:=u;refine⟨c,rfl,?_⟩;cases c with|false=>exact q _ _ (Lf.up i (Lf.of (d:=.bl Δ) e rfl h))|true=>exact⟨p,f,t,Q,g,e,h,λz x l=>q z x (Lf.up i l)⟩
 |_=>exact h.elim
theorem zpj(j:PE X a (tE X.K cf m))(n:PE X (.BoolOp .Or (b::rest) pos) (tE X.K cf o)):PE X (.BoolOp .Or (a::b::rest) pos) (tE X.K cf (.or m o)):=by
 refine PE.imp (zrJ j n) λy H A k=>?_;obtain⟨p,B,S,Q,r,s,w,q⟩:=k;change W (Out.bind _ _) _ at w;simp only[zab] at w;refine tE.run r s w λd v f C t i g e u h=>?_;cases d with
 |bl c=>obtain rfl:v=.bl c:=u;refine⟨c,rfl,?_⟩;cases c with|true=>exact q _ _ (Lf.up i (Lf.of (d:=.bl Γ) e rfl h))|false=>exact⟨p,f,t,Q,g,e,h,λz x l=>q z x (Lf.up i l)⟩
 |_=>exact h.elim
theorem LfB.up{K}(x:Ext ι H f H')(h:LfB K f H' Q b c):LfB K ι H Q b c:=by obtain⟨a,d,e,r⟩:=h;exact⟨a,d,x.trans e,r⟩
theorem zmb(j:PT X a (tT X.K cf m))(n:PW X (.BoolOp .And (b::rest) pos) (tT X.K cf o)):PW X (.BoolOp .And (a::b::rest) pos) (tT X.K cf (.and m o)):=by refine PW.imp (zpN j n) λu H v k=>?_;obtain⟨p,x,S,Q,r,s,w,q⟩:=k;change W (Out.bind _ _) _ at w;simp only[zab] at w;refine tT.run r s w λc d y g h f e i=>?_;cases c with|false=>exact q _ _ ⟨d,g,h,e,i⟩|true=>exact⟨p,d,g,Q,f,e,i,λz t l=>q z t (LfB.up h l)⟩
theorem zo9(j:PT X a (tT X.K cf m))(n:PW X (.BoolOp .Or (b::rest) pos) (tT X.K cf o)):PW X (.BoolOp .Or (a::b::rest) pos) (tT X.K cf (.or m o)):=by refine PW.imp (zrG j n) λu H v k=>?_;obtain⟨p,x,S,Q,r,s,w,q⟩:=k;change W (Out.bind _ _) _ at w;simp only[zab] at w;refine tT.run r s w λc d y g h f e i=>?_;cases c with|true=>exact q _ _ ⟨d,g,h,e,i⟩|false=>exact⟨p,d,g,Q,f,e,i,λz t l=>q z t (LfB.up h l)⟩
theorem zrt(e:PT X a (tT X.K cf f)):PT X (.UnaryOp .Not a pos) (tT X.K cf (.nt f)):=by refine PT.imp (zpP e) λn H o z=>?_;obtain⟨p,r,S,Q,g,h,w,q⟩:=z;change W (Out.bind _ _) _ at w;simp only[zab] at w;exact tT.run g h w λc b s i j l d m=>q _ _ ⟨b,i,j,d,m⟩
theorem zoY(o:RH X.K ι H S)(r:RV X.K ι H d v)(h:tru S d=Φ b):TruV X.K v H b:=by
 cases d with
 |non=>obtain rfl:v=.non:=r;cases h;rfl|bl c=>obtain rfl:v=.bl c:=r;cases h;rfl|int i=>obtain rfl:v=.int i:=r;cases h;rfl| tup g=>obtain⟨a,f,rfl,j,m⟩:=r;cases h;refine .inr (.inl ⟨f,SqT.of j,?_⟩);have:=m.length;cases g<;>cases f<;>first|rfl|simp at this
 |ref l=>
  simp only[tru]at h;split at h
  . rename_i g e;cases h;obtain⟨a,p,rfl⟩:=r;obtain⟨q,n,f,j,m⟩:=o.obj _ _ e;rw[p]at n;cases n;refine .inl ⟨f,SqL.of j,?_⟩;have:=m.length;cases g<;>cases f<;>first|rfl|simp at this
  exact nS h
 |_=>exact nS h
theorem zo8(f:PE X a (tE X.K cf g))(h:zg8 a=Γ):PT X a (tT X.K cf (.tst g)):=by refine PT.imp (zle f (zoX h X.env)) λt H u z=>?_;obtain⟨x,y,S,Q,i,j,w,q⟩:=z;change W (Out.bind _ _) _ at w;simp only[zab] at w;refine tE.run i j w λd v e A l m n c o p=>?_;obtain⟨b,r,s⟩:=zau p;exact⟨b,zoY c o r,q _ _ ⟨e,l,m,c,s⟩⟩
theorem zpp(n:PT X c (tT X.K cf o))(p:PE X a (tE X.K cf r))(s:PE X b (tE X.K cf t)):PE X (.IfExp c a b pos) (tE X.K cf (.ite o r t)):=by refine PE.imp (zls n p s) λx H y k=>?_;obtain⟨h,A,S,Q,u,v,w,q⟩:=k;change W (Out.bind _ _) _ at w;simp only[zab] at w;refine tT.run u v w λc d B i j e f m=>?_;cases c with|true=>exact⟨h,d,i,Q,e,f,m,λz g l=>q z g (Lf.up j l)⟩|false=>exact⟨h,d,i,Q,e,f,m,λz g l=>q z g (Lf.up j l)⟩
theorem zmh:PA X [] (tAs X.K cf .nil):=PA.imp zjp λc H d z=>(by obtain⟨e,a,S,Q,f,b,w,q⟩:=z;exact q [] H ⟨[],a,S,Ext.refl _ _,rfl,b,by simpa[evEs]using w⟩)
theorem ziZ(j:PE X e (tE X.K cf l))(a:PA X es (tAs X.K cf b))(m:zai e=Γ):PA X (e::es) (tAs X.K cf (.cons l b)):=by refine PA.imp (zdt j a (zaj m es X.env)) λE H G z=>?_;obtain⟨I,J,S,Q,n,o,w,q⟩:=z;simp only[evEs,zab]at w;refine tE.run n o w λd v p L M r c f s t=>tAs.run c f t λu x g O y i A h B C=>?_;exact q _ _ ⟨d::u,g,y,r.trans i,⟨v,x,rfl,s.ext i,B⟩,h,C⟩
theorem zph(h:PA X es (tAs X.K cf a)):PE X (.Tuple es j pos) (tE X.K cf (.tup a)):=by refine PE.imp (zpX h) λo H r z=>?_;obtain⟨s,t,S,Q,f,g,w,q⟩:=z;change W (Out.bind _ _) _ at w;simp only[zab] at w;refine tAs.run f g w λu v i x y l m b e d=>?_;split at d;rename_i c;exact⟨by rw[e.length,ϔ];exact c,λp n=>q _ _ (Lf.up l (Lf.tup b n e d))⟩;exact d.elim
theorem zpn(h:PA X es (tAs X.K cf a)):PE X (.List es pos) (tE X.K cf (.lst a)):=by refine PE.imp (zp2 h) λo H r z=>?_;obtain⟨s,t,S,Q,e,f,w,q⟩:=z;change W (Out.bind _ _) _ at w;simp only[zab] at w;refine tAs.run e f w λu v g x y i j b d l=>?_;obtain⟨c,m⟩:=zcd l;exact⟨by rw[d.length];exact c,λp n=>q _ _ (Lf.up i (Lf.lst b n d m))⟩
theorem zr2(p:RH X.K ι H S)(r:RV X.K ι H d v)(q:zct S d=Φ h)(b:R.atI h i=Φ e):∃u,rIx X.K v (.int i) H (λz H'=>z=u/\H'=H)/\RV X.K ι H e u:=by
 obtain⟨a,f,rfl,c,o⟩:=zme p q r;have s:=o.length;have l:∃u,L2.atI f i=Φ u/\RV X.K ι H e u:=by
  unfold R.atI at b;cases m:R.ixN h.length i with
  |none=>rw[m]at b;exact nS b
  |some j=>
   rw[m]at b;obtain⟨u,g,n⟩:=o.get (show h[j]?=Φ e from b);refine⟨u,?_,n⟩;unfold L2.atI;have:L2.ixN f.length i=Φ j:=by rw[s];exact m
   rw[this];exact g
 obtain⟨u,g,n⟩:=l;refine⟨u,?_,n⟩;rcases c with c|c;exact .inl ⟨a,f,i,u,rfl,rfl,c,g,rfl,rfl⟩;exact .inr (.inl ⟨a,f,i,u,rfl,rfl,c,g,rfl,rfl⟩)
theorem znw{K}(h:rIx K x y H (λz H'=>z=u/\H'=H))(q:Q u H):rIx K x y H Q:=by rcases h with⟨p,f,i,v,a,b,d,e,rfl,_⟩|⟨p,f,i,v,a,b,d,e,rfl,_⟩|⟨z,i,c,a,b,d,e,g,_⟩;exact .inl ⟨p,f,i,v,a,b,d,e,q⟩;exact .inr (.inl ⟨p,f,i,v,a,b,d,e,q⟩);exact .inr (.inr ⟨z,i,c,a,b,d,e,by rw[g];exact q⟩)
theorem zry(l:PE X a (tE X.K cf m))(n:PE X b (tE X.K cf o))(p:zeO b=Γ):PE X (.Subscript a b pos) (tE X.K cf (.ix m o)):=by refine PE.imp (zrL zqN l n (zr3 p)) λO H U k=>?_;obtain⟨Y,ι,S,Q,r,s,w,q⟩:=k;change W (Out.bind _ _) _ at w;simp only[zab] at w;refine tE.run r s w λd v t H1 S1 x f g y A=>tE.run f g A λe u B H2 S2 j C c E h=>?_;split at h;rename_i ds i G;obtain⟨z,I,J⟩:=zau h;obtain rfl:u=.int i:=E;obtain⟨u,L,M⟩:=zr2 c (y.ext j) G I;exact znw L (q _ _ (Lf.up (x.trans j) (Lf.of c M J)));exact h.elim
end
section
variable{K:Frag}{ι ι':List Addr}{H H':Hp}{S T:R.St}{d:D}{v:V}
theorem zom(a:T.frz=S.frz++S.new)(h:S.get l=Φ o):T.get l=Φ o:=by obtain⟨f,n,k⟩:=T;subst a;exact zeY h n k
theorem RH.cut(j:RH K ι H S)(x:Ext ι H ι' H')(n:RH K ι' H' T)(r:T.frz=S.frz++S.new):RH K ι H' S:=by refine⟨j.len,j.nd,λl o e=>?_,n.tab⟩;obtain⟨a,p,k⟩:=j.obj l o e;obtain⟨b,q,m⟩:=n.obj l o (zom r e);rw[zci x.pre p]at q;cases q;refine⟨a,p,?_⟩;cases o with| lst z=>obtain⟨A,_,f⟩:=k;obtain⟨g,h,i⟩:=m;exact⟨g,h,i.restrict x.pre f.flats⟩| ins c B=>obtain⟨_,_,s,_,_,f⟩:=k;obtain⟨C,t,g,u,h,i⟩:=m;exact⟨C,t,g,u,h,i.restrict x.pre f.flats⟩| d3 w=>obtain⟨_,s,_,f⟩:=k;obtain⟨y,g,h,i⟩:=m;exact⟨y,g,h,i.restrict x.pre f.flats⟩
theorem Ext.cut(x:Ext ι H ι' H'):Ext ι H ι H':=⟨prefix_refl _,x.kp,λa o h e=>⟨(x.rest a o h e).1,h⟩⟩
theorem znK(c:ι <+: ι')(e:ι'.Nodup)(b:ι'[l]?=Φ a)(h:ι.length<=l):a∉ι:=λf=>by obtain⟨t,rfl⟩:=c;rw[getElem?_append_right h]at b;have g:=mem_of_getElem? b;exact(nodup_append.mp e).2.2 a f a g rfl
theorem zot(x:Ext ι H ι' H')(g:ι'.Nodup)(f:ι'[l]?=Φ a)(h:ι.length<=l):Ext ι H (ι++[a]) H':=by refine⟨prefix_append _ _,x.kp,λb o c e=>⟨(x.rest b o c e).1,λz=>?_⟩⟩;rcases mem_append.mp z with z|z;exact c z;simp at z;subst z;exact(x.rest b o c e).2 (mem_of_getElem? f)
theorem RH.one{l:Nat}{a:Addr}{o:MO}(f:RH K ι H' S)(i:a∉ι)(j:RO K (ι++[a]) H' a o):RH K (ι++[a]) H' (S.push o):=by
 refine⟨by rw[length_append,f.len,zc4];rfl,?_,λl k e=>?_,f.tab⟩;rw[nodup_append];refine⟨f.nd,by simp,λb m c h=>?_⟩;simp at h;subst h;exact λz=>i (z▸m);by_cases n:l<S.len;rw[zdI n]at e;obtain⟨b,p,q⟩:=f.obj l k e;exact⟨b,zci (prefix_append _ _) p,q.up (prefix_append _ _) (Kp.refl _) rfl⟩;have g:=get_lt e;rw[zc4]at g;have:l=S.len:=by lia
 subst this;rw[zhn]at e;cases e;exact⟨a,by rw[<-f.len];simp,j⟩
theorem RH.keep(a:RH K ι' H' T)(c:T.frz=S.frz++S.new):RH K ι' H' ⟨S.frz,S.new++T.new,S.lk⟩:=by
 have g:∀l,(R.St.mk S.frz (S.new++T.new) S.lk).get l=T.get l:=λl=>by unfold St.get;rw[c];simp only[length_append];by_cases b:l<S.frz.length;rw[if_pos b,if_pos (by omega),getElem?_append_left b];by_cases f:l<S.frz.length+S.new.length;rw[if_neg b,if_pos f,getElem?_append_left (by omega),getElem?_append_right (by omega)];rw[if_neg b,if_neg f,getElem?_append_right (by omega)];congr 1;omega
 refine⟨?_,a.nd,λl o e=>a.obj l o (by rw[<-g];exact e),a.tab⟩;rw[a.len];unfold St.len;rw[c];simp only[length_append];omega
theorem zhh(g:RH K ι H S)(x:Ext ι H ι' H')(r:RV K ι' H' d v)(f:RH K ι' H' T)(h:T.frz=S.frz++S.new)(w:W (zcN S d T) Q):Lf K ι H Q v H':=by
 have j:=g.cut x f h;unfold zcN at w;split at w;rename_i c;rw[<-g.len]at c;exact⟨d,ι,S,x.cut,r.restrict x.pre c,j,w⟩;rename_i c;split at w;rename_i l;obtain⟨a,i,rfl⟩:=id r;have k:ι.length<=l:=by simp only[R.flat]at c;rw[g.len];lia
 have o:=znK x.pre f.nd i k;split at w;rename_i p e;obtain⟨b,m,q⟩:=f.obj l _ e;rw[i]at m;cases m;split at w;rename_i n;rw[<-g.len]at n;obtain⟨s,t,u⟩:=q;refine⟨.ref S.len,ι++[a],S.push (.lst p),zot x f.nd i k,⟨a,by rw[<-g.len];simp,rfl⟩,j.one (l:=l) o ⟨s,t,(u.restrict x.pre n).up (prefix_append _ _) (Kp.refl _)⟩,w⟩;exact⟨_,ι',_,x,r,f.keep h,w⟩;exact⟨_,ι',_,x,r,f.keep h,w⟩;exact⟨_,ι',_,x,r,f.keep h,w⟩
end
section
variable{T:Tab}{cf:CF}{k:Nat}{N:List Str}{sc:Scope}{X:Cx}{pos p:Pos}
theorem RVs.nons{K}:∀j:Nat,RVs K ι H (List.replicate j .non) (List.replicate j .non)
 |0=>rfl|j+1=>⟨.non,List.replicate j .non,rfl,rfl,RVs.nons j⟩
theorem RH.enter{K}(h:RH K ι H S):RH K ι H S.enter:=⟨by rw[zki];exact h.len,h.nd,λl o e=>h.obj l o (by rw[zaB]at e;exact e),h.tab⟩
theorem zky(b:CFok cf)(h:tE X.K cf (.call f j c) σ H l):
  ziO (spF X.K cf f) (List.replicate j .non) E0 (tAs X.K cf c) σ H l:=by
 obtain⟨E,G,S,Q,m,n,w,q⟩:=h;change W (Out.bind _ _) _ at w;simp only[zab] at w;refine tAs.run m n w λo I g J s t u a y i=>?_;unfold app at i;rw[zab]at i;refine⟨g,s.enter,o++List.replicate j .non,y.append (RVs.nons j),a.enter,?_⟩;obtain⟨d,L,e,z⟩:=ziv i;rw[e];exact λv A B x r C=>q v A (Lf.up t (zhh a x r C (b _ _ _ _ _ e).frz z))
theorem zkC{K}(g:RH K b c S1)(x:Ext ι H b c)(d:c a=Ψ):H a=Ψ:=by
 cases e:H a with
 |none=>rfl| some o=>
  by_cases f:a∈ι;have h:a∈b:=by obtain⟨t,rfl⟩:=x.pre;exact mem_append_left _ f
  exact absurd h (g.fresh d)
  . have:=(x.rest a o f e).1;rw[d]at this;rcases this with z|⟨_,_,z⟩<;>exact nS z
theorem znm(G:Gd T cf k N sc X)(d:T.fns[f]?=Φ (x,g,c))(i:j<=c)(l:isGl sc x=Γ)(hd:(x==("__debug__":Str))=Δ)(m:PA X (e::es) (tAs X.K cf b))(a:(e::es).all zai=Γ):
  PE X (.Call (.Name x p) (e::es) [] pos) (tE X.K cf (.call f j b)):=by
 have Hs:=G.tab.fns f x g c d j i;rw[all_cons,Α]at a;exact PE.imp (zrM Hs G.room m (G.gl l) hd (zaj a.1 es X.env) (zbn a.2)) λn H o h=>zky G.tab.frm h
theorem zk4(G:Gd T cf k N sc X)(c:T.fns[f]?=Φ (x,g,a))(h:j<=a)(i:isGl sc x=Γ)(hd:(x==("__debug__":Str))=Δ):
  PE X (.Call (.Name x p) [] [] pos) (tE X.K cf (.call f j .nil)):=by
 have Hs:=G.tab.fns f x g a c j h;refine PE.imp (zp4 Hs G.room (G.gl i) hd) λt H u z=>?_;obtain⟨y,l,S,Q,A,b,w,q⟩:=z;change W (Out.bind _ _) _ at w;simp only[evEs,zaC] at w;unfold app at w;rw[zab]at w;obtain⟨d,B,e,m⟩:=ziv w;refine⟨l,S.enter,[]++List.replicate j .non,RVs.append rfl (RVs.nons j),b.enter,?_⟩;rw[e];exact λv n o x r s=>q v n (zhh b x r s (G.tab.frm _ _ _ _ _ e).frz m)
end
section
variable{prog:Τ}{w:ϐ}{A:ϑ}{E:Λ->Η->Prop}{s:Η}
theorem zcm{lo c}(a:IsTup s.heap t items)(g:s.heap.IsSliceOf i k l .none)(pl:IsPart k lo)(m:IsPart l c)(j:HT.sIx items.size 0 lo=0/\HT.sIx items.size items.size c=items.size)(h:Q (.ref t) s):wpAny (model prog w) A (getItem (.ref t) (.ref i)) Q E s:=by
 obtain⟨os,d,e,n⟩:=id g;have f:s.TypeIs (.ref i) "slice":=⟨os,d,e⟩;unfold getItem
 try with_reducible refine ϖ ?_
 refine Θ (wpAny_sequenceKey a.typeIs (by decide) ?_);refine Θ (Ϛ a.typeIs PyProof.Rows.slot_tuple_getitem
  (ύ PyProof.Rows.slot_tuple_getitem a.typeIs entry_tuple_getitem ?_ (args_tuple_getitem _ _)))
 show wpAny _ _ (Builtin.Tuple.tupleItemsOf (.ref t)>>=_) _ _ s;refine Θ (tupleItemsOf_ a ?_);refine Θ (wpAny_typeOf f ?_);refine Θ (HT.sliceApplied_gen g pl m ?_);have b:(((HT.sIx items.size 0 lo:Nat):Int)==0&&(1:Int)==1&&(HT.sIx items.size items.size c-HT.sIx items.size 0 lo)==items.size)=Γ:=by rw[j.1,j.2];simp
 show wpAny _ _ (if(((HT.sIx items.size 0 lo:Nat):Int)==0&&(1:Int)==1&&(HT.sIx items.size items.size c-HT.sIx items.size 0 lo)==items.size)=Γ then _ else _) _ _ s;rw[if_pos b];refine Θ (Θ (wpAny_typeOf a.typeIs (Ξ ?_)));exact Θ (Ϭ (Ξ ⟨_,rfl,Ξ h⟩))
end
section
variable{T:Tab}{cf:CF}{k:Nat}{N:List Str}{sc:Scope}{X:Cx}{pos p:Pos}
def rSlW(K:Frag):V->Option Int->Option Int->Hp->VK->Prop:=λx lo c H Q=>∃a b,x=.ref a/\SqT K H a b/\
 (HT.sIx b.length 0 lo=0/\HT.sIx b.length b.length c=b.length)/\Q (.ref a) H
theorem zkR:SlR X (rSlW X.K):=by
 intro d s o H x v t u lo w y Q I f g i j h;obtain⟨a,l,rfl,m,n,q⟩:=h;cases f;obtain⟨c,r,e,z⟩:=I.tuple m;have b:c.toArray.size=l.length:=by exact r.length.symm
 exact⟨"tuple",_,PyProof.Rows.slot_tuple_getitem.lookup,e.typeIs,zcm e g i j (by rw[b];exact n) ⟨.ref a,H,I,rfl,q⟩⟩
theorem zgY(n d)(o):R.sIx n d o=HT.sIx n d o:=by cases o<;>rfl
theorem zku{xs:List b}{lo a}(h:HT.sIx xs.length 0 lo=0/\HT.sIx xs.length xs.length a=xs.length):cut xs lo a=xs:=by unfold cut;rw[zgY,zgY,h.1,h.2];simp
theorem RVs.cut{K}(r:RVs K ι H b xs)(lo a):RVs K ι H (R.cut b lo a) (cutV xs lo a):=by have c:=r.length;unfold R.cut cutV;rw[zgY,zgY,c];exact(r.drop _).take _
inductive PartOk(X:Cx)(cf:CF):Bool->CE->Option Expr->Prop where
 |no {c:CE} (h:∃d,c=.con d):PartOk X cf Δ c Ψ
 |yes {c:CE} {e:Expr} (h:PE X e (tE X.K cf c)):PartOk X cf Γ c (Φ e)
theorem zrv{lo hi}(C:PE X a (tE X.K cf ca))(hlo:PartOk X cf ml clo lo)(hhi:PartOk X cf mh chi hi):PE X (.Subscript a (.Slice lo hi Ψ p2) pos) (tE X.K cf (.sl ca ml mh clo chi)):=by
 have fin:∀{σ:L2.St}{δ:Ev}{g f:List Addr}{H E:Hp}{B:R.St}{Q:D->R.St->Prop}{j:VK}{d:D}{v:V}{y z:Option Int},Ext g H f E->RH X.K f E B->RV X.K f E d v->(∀v L,Lf X.K g H Q v L->j v L)->
   W (match d with|.tup n=>.ok (.tup (R.cut n y z)) B|.fix n=>lay B (R.cut n y z)|.ref p=>(match B.get p with|some (.lst n)=>lay B (R.cut n y z)|_=>.bad)|_=>.bad) Q->
   (rSlL X.K v y z E j\/rSlT X.K v y z E j)\/rSlW X.K v y z E j:=by
  intro σ δ g f H E B Q j d v y z x s r q w;cases d with
  |tup n=>obtain⟨a,A,rfl,C,M⟩:=r;by_cases hw:HT.sIx A.length 0 y=0/\HT.sIx A.length A.length z=A.length;refine .inr ⟨a,A,rfl,SqT.of C,hw,q _ _ (Lf.up x (Lf.of (d:=.tup n) s ⟨a,A,rfl,C,M⟩ ?_))⟩;have e:R.cut n y z=n:=zku (by rw[<-M.length];exact hw);dsimp only at w;rw[e]at w;exact w;exact .inl (.inr ⟨a,A,rfl,SqT.of C,hw,λp G=>q _ _ (Lf.up x (Lf.tup s G (M.cut y z) w))⟩)| fix n=>obtain⟨a,A,rfl,C,M⟩:=r;obtain⟨_,I⟩:=zcd w;exact .inl (.inl ⟨a,A,rfl,C.sq,λp G=>q _ _ (Lf.up x (Lf.lst s G (M.cut y z) I))⟩)| ref l=>dsimp only at w;cases e:B.get l with|none=>rw[e]at w;exact w.elim| some o=>rw[e]at w;cases o with| lst n=>obtain⟨a,h1,rfl⟩:=r;obtain⟨b,h2,A,C,M⟩:=s.obj _ _ e;rw[h1]at h2;cases h2;obtain⟨_,I⟩:=zcd w;exact .inl (.inl ⟨a,A,rfl,SqL.of C,λp G=>q _ _ (Lf.up x (Lf.lst s G (M.cut y z) I))⟩)|_=>exact w.elim
  |_=>exact w.elim
 have part:∀{m:Bool}{c:CE}{o:Option Expr},PartOk X cf m c o->∃t,PO X o t/\∀{δ:Ev}{σ:L2.St}{g:List Addr}{H:Hp}{S:R.St}{Q:D->R.St->Prop}{j:Option Int->Hp->Prop},RS X.K g H δ σ->RH X.K g H S->W (evE cf c δ S) Q->
   (∀d S',Q d S'->∃z,zbJ m d=Φ z)->
   (∀d O L S' z,Ext g H O L->RS X.K O L δ σ->RH X.K O L S'->Q d S'->zbJ m d=Φ z->j z L)->t σ H j:=by
  intro m c o h;cases h with| no h=>obtain⟨d,rfl⟩:=h;refine⟨_,zgt,λ{δ σ g H S Q j} hs s w G h=>?_⟩;exact h d g H S Ψ (Ext.refl _ _) hs s w rfl| yes h=>refine⟨_,zjh h,λ{δ σ g H S Q j} hs s w G h=>?_⟩;refine tE.run hs s w λd v f E B x1 U Y r1 w1=>?_;obtain⟨z,hz⟩:=G d B w1;cases d with| int i=>obtain rfl:v=.int i:=r1;exact⟨i,rfl,h _ _ _ _ _ x1 U Y w1 rfl⟩|_=>exact nS hz
 obtain⟨tl,pl,rl⟩:=part hlo;obtain⟨th,ph,rh⟩:=part hhi;refine PE.imp (zlo (SlR.or (SlR.or zm7 zpg) zkR) C pl ph) λσ H j k=>?_;obtain⟨δ,g,S,Q,hs,s,w,q⟩:=k;change W (Out.bind _ _) _ at w;simp only[zab] at w;refine tE.run hs s w λd v f E B x1 U Y r1 w1=>?_;have hz:∀(b:Bool)(y:D),zbJ b y=Ψ\/∃z,zbJ b y=Φ z:=λb y=>by cases zbJ b y<;>simp
 refine rl U Y w1 (λy S2 I=>?_) λy ι2 H2 S2 zl x2 hs2 hh2 I hzl=>?_;rcases hz ml y with e|e;rw[W.iff]at I;obtain⟨u,S3,_,J⟩:=I;rw[e]at J;exact J.elim;exact e;refine rh hs2 hh2 I (λu S3 J=>?_) λu ι3 H3 S3 zh x3 hs3 hh3 J hzh=>?_;rcases hz mh u with e|e;rw[hzl,e]at J;exact J.elim;exact e;rw[hzl,hzh]at J;exact fin (σ:=σ) (δ:=δ) ((x1.trans x2).trans x3) hh3 (r1.ext (x2.trans x3)) q J
end
def rB(K:Frag)(f:R.St->List D->Out D):List V->Hp->VK->Prop:=λe H g=>∃a S b c,RVs K a H b e/\RH K a H S/\W (f S b) c/\∀v d,Lf K a H c v d->g v d
section
variable{T:Tab}{cf:CF}{k:Nat}{N:List Str}{sc:Scope}{X:Cx}{pos p:Pos}
theorem RVs.one{K}(r:RVs K ι H [d] xs):∃v,xs=[v]/\RV K ι H d v:=by obtain⟨v,w,rfl,a,b⟩:=r;cases(show w=[] from b);exact⟨v,rfl,a⟩
theorem RVs.two{K}(r:RVs K ι H [d,e] xs):∃v u,xs=[v,u]/\RV K ι H d v/\RV K ι H e u:=by obtain⟨v,w,rfl,a,b⟩:=r;obtain⟨u,rfl,c⟩:=RVs.one b;exact⟨v,u,rfl,a,c⟩
theorem zqF:za0 X (.builtin "len") (rB X.K λS m=>R.bi S .len m):=by
 intro c s n H f t u I y z;obtain⟨G,S,m,J,r,j,w,q⟩:=z;dsimp only at w;unfold bi at w;split at w
 case h_1 x=>
  obtain⟨v,rfl,A⟩:=r.one;split at w;obtain⟨a,f,rfl,g,i⟩:=A;refine zbQ c s n H _ t u I y ⟨a,f,rfl,.inr (SqT.of g),?_⟩;rw[i.length];exact q _ _ (Lf.of (d:=.int _) j rfl w);obtain⟨a,f,rfl,g,i⟩:=A;refine zbQ c s n H _ t u I y ⟨a,f,rfl,.inl g.sq,?_⟩;rw[i.length];exact q _ _ (Lf.of (d:=.int _) j rfl w);rename_i l;obtain⟨a,C,rfl⟩:=A;cases e:S.get l with|none=>rw[e]at w;exact w.elim| some o=>rw[e]at w;obtain⟨b,B,E⟩:=j.obj _ _ e;rw[C]at B;cases B;cases o with| lst m=>obtain⟨f,g,i⟩:=E;refine zbQ c s n H _ t u I y ⟨a,f,rfl,.inl (SqL.of g),?_⟩;rw[i.length];exact q _ _ (Lf.of (d:=.int _) j rfl w)|_=>exact w.elim
  exact w.elim
 all_goals first|exact w.elim|(rename_i h;cases h)
theorem zrd:za0 X (.builtin "abs") (rB X.K λS b=>R.bi S .abs b):=by
 intro a s c H m e f I g z;obtain⟨n,S,b,o,r,j,w,q⟩:=z;dsimp only at w;unfold bi at w;split at w
 case h_2 i _=>obtain⟨v,rfl,l⟩:=r.one;obtain rfl:v=.int i:=l;exact zlY a s c H _ e f I g ⟨i,rfl,q _ _ (Lf.of (d:=.int _) j rfl w)⟩
 all_goals first|exact w.elim|(rename_i h;cases h)
theorem zqp(c:X.calm=Γ):za0 X (.builtin "max") (rB X.K λS b=>R.bi S .max2 b):=by
 intro a s e H t f g I l z;obtain⟨x,S,b,y,r,m,w,q⟩:=z;dsimp only at w;unfold bi at w;split at w
 case h_3 i j _=>obtain⟨v,u,rfl,n,o⟩:=r.two;obtain rfl:v=.int i:=n;obtain rfl:u=.int j:=o;exact zkx c a s e H _ f g I l ⟨i,j,rfl,q _ _ (Lf.of (d:=.int _) m rfl w)⟩
 all_goals first|exact w.elim|(rename_i h;cases h)
theorem zqn(c:X.calm=Γ):za0 X (.builtin "min") (rB X.K λS b=>R.bi S .min2 b):=by
 intro a s e H t f g I l z;obtain⟨x,S,b,y,r,m,w,q⟩:=z;dsimp only at w;unfold bi at w;split at w
 case h_4 i j _=>obtain⟨v,u,rfl,n,o⟩:=r.two;obtain rfl:v=.int i:=n;obtain rfl:u=.int j:=o;exact zkw c a s e H _ f g I l ⟨i,j,rfl,q _ _ (Lf.of (d:=.int _) m rfl w)⟩
 all_goals first|exact w.elim|(rename_i h;cases h)
theorem zaO(G:Gd T cf k N sc X)(h:bltB T sc x=Γ):Gl X x/\X.mg x=Ψ:=by unfold bltB at h;rw[Α]at h;exact⟨G.gl h.1,G.tab.blt x h.2⟩
theorem zrz{id}(j:za0 X (.builtin id) (rB X.K λS c=>R.bi S b c))(i:Gl X x/\X.mg x=Ψ)(m:bootBuiltins x=Φ (.builtin id))(n:PA X (e::es) (tAs X.K cf d))(a:(e::es).all zai=Γ)(o:x≠"__name__")(f:(x==("__debug__":Str))=Δ):
  PE X (.Call (.Name x p) (e::es) [] pos) (tE X.K cf (.bi b d)):=by
 rw[all_cons,Α]at a;refine PE.imp (zbY j i.1 i.2 m n o f (zaj a.1 es X.env) (zbn a.2)) λE H G z=>?_;obtain⟨I,J,S,Q,r,s,w,q⟩:=z;change W (Out.bind _ _) _ at w;simp only[zab] at w;refine tAs.run r s w λc L g M t u y h A B=>?_;exact⟨g,t,c,Q,A,h,B,λv C l=>q v C (Lf.up u l)⟩
theorem zmV(i:RH X.K ι H S)(r:RV X.K ι H d v)(h:tyOf S d=Φ a):zcS H v=Φ a:=by
 cases d with
 |non=>obtain rfl:v=.non:=r;exact h|bl b=>obtain rfl:v=.bl b:=r;exact h|int b=>obtain rfl:v=.int b:=r;exact h|str b=>obtain rfl:v=.str b:=r;exact h| tup f=>obtain⟨p,j,rfl,c,_⟩:=r;simp only[tyOf]at h;simp only[zcS,c];exact h| ref l=>
  obtain⟨p,m,rfl⟩:=r;simp only[tyOf]at h;simp only[zcS];cases e:S.get l with
  |none=>rw[e]at h;exact nS h
  |some o=>
   rw[e]at h;obtain⟨b,g,n⟩:=i.obj _ _ e;rw[m]at g;cases g;cases o with
   |lst f=>obtain⟨j,c,_⟩:=n;rw[c];exact h|ins _ _=>exact nS h
   |d3 _=>exact nS h
 |fix f=>exact nS h
theorem znj(G:Gd T cf k N sc X)(i:Gl X "isinstance"/\X.mg "isinstance"=Ψ)(j:Gl X y/\X.mg y=Ψ)(l:bootBuiltins y=Φ (.type t))(m:t∈["bool","int","str","list","tuple","dict"])(g:y≠"__name__")(h:(y==("__debug__":Str))=Δ)(n:PE X e (tE X.K cf o))(b:zai e=Γ):PE X (.Call (.Name "isinstance" p) [e,.Name y E] [] pos) (tE X.K cf (.bi (.isin t) (.cons o .nil))):=by
 refine PE.imp (zbY zgK i.1 i.2 ze7 (zdt n (zdt (znQ (v:=.ty t) j.1 j.2 l rfl g h) zjp) (zaj b _ X.env)) (by decide) (by decide) (zaj b _ X.env)) λI H J z=>?_;obtain⟨L,M,S,Q,r,s,w,q⟩:=z;change W (Out.bind _ _) _ at w;simp only[evEs,zab,W_ok] at w;refine tE.run r s w λd v u O x A B c C f=>?_;simp only[bi]at f;cases e:tyOf x d with|none=>rw[e]at f;exact f.elim| some a=>rw[e]at f;exact⟨v,t,a,rfl,zmV c C e,m,q _ _ (Lf.up A (Lf.of (d:=.bl _) c rfl f))⟩
theorem zmy(c:RH X.K ι H S)(r:RV X.K ι H d v)(h:isL S d=Γ):tyV X.K "list" v H:=by
 cases d with
 |ref l=>
  obtain⟨p,f,rfl⟩:=r;simp only[isL]at h;cases e:S.get l with
  |none=>rw[e]at h;exact nB h
  |some o=>rw[e]at h;obtain⟨b,a,g⟩:=c.obj _ _ e;rw[f]at a;cases a;cases o with|lst m=>obtain⟨i,j,_⟩:=g;exact .inl ⟨rfl,i,SqL.of j⟩|_=>exact nB h
 |_=>exact nB h
def rM(K:Frag)(m:Mt):V->List V->Hp->VK->Prop:=λx f H g=>∃a S d b c,RV K a H d x/\RVs K a H b f/\RH K a H S/\W (R.mt S m d b) c/\∀v e,Lf K a H c v e->g v e
theorem zkD:MtR X "list.append" (rM X.K .append):=by
 intro f s n H x Y v t A I B C z;obtain⟨ι,S,d,E,Qd,r,G,g,w,q⟩:=z;unfold R.mt at w;split at w
 case h_1 l y _=>obtain⟨a,i,rfl⟩:=r;obtain⟨u,rfl,J⟩:=G.one;cases e:S.get l with|none=>rw[e]at w;exact w.elim| some o=>rw[e]at w;obtain⟨b,j,L⟩:=g.obj _ _ e;rw[i]at j;cases j;cases o with| lst E=>obtain⟨M,O,m⟩:=L;obtain⟨c,S',Q,U⟩:=zmO w;refine zfx f s n H _ _ v t A I B C ⟨a,M,u,rfl,rfl,O,?_,?_⟩;rw[m.length];rw[length_append,List.length_singleton]at c;lia;exact q _ _ (Lf.wr (d:=.non) g e i Q (m.append ⟨u,[],rfl,J,rfl⟩) rfl U)|_=>exact w.elim
 all_goals first|exact w.elim|(rename_i h;cases h)
theorem zlh:MtR X "list.pop" (rM X.K .popAt):=by
 intro f s G H x xs v J L I M O z;obtain⟨ι,S,d,m,Qd,r,Q,n,w,q⟩:=z;unfold R.mt at w;split at w
 case h_2 l i _=>
  obtain⟨a,t,rfl⟩:=r;obtain⟨u,rfl,g⟩:=Q.one;obtain rfl:u=.int i:=g;cases e:S.get l with
  |none=>rw[e]at w;exact w.elim| some o=>
   rw[e]at w;obtain⟨b,A,U⟩:=n.obj _ _ e;rw[t]at A;cases A;cases o with
   |lst m=>
    obtain⟨Y,B,C⟩:=U;dsimp only at w;split at w;rename_i c0;cases j:m[i.toNat]? with|none=>rw[j]at w;exact w.elim| some y=>rw[j]at w;obtain⟨c,S',hp,w2⟩:=zmO w;obtain⟨u,E,g⟩:=C.get j;have hlt:=(Β.mp E).1;have hz:=(I.lstM B).1;rw[ϔ]at hz;refine zlz f s G H _ _ v J L I M O ⟨a,Y,i,i.toNat,u,rfl,rfl,B,by lia,by lia,?_,E,?_⟩;exact PySem.StrLaws.seqIndex_nonneg c0 (by lia);exact q _ _ (Lf.wr n e t hp (C.erase _) g w2)
    exact w.elim
   |_=>exact w.elim
 all_goals first|exact w.elim|(rename_i h;cases h)
theorem zfb:∀{a:List D}{os:List (Option Int)},zbs a=Φ os->a=os.map λo=>match o with|some i=>D.int i|none=>D.non:=by intro a;unfold zbs;induction a with|nil=>intro os h;simp at h;subst h;rfl| cons d a c=>intro os h;obtain⟨y,r,b,e,rfl⟩:=zaF h;rw[c e];cases d<;>simp[zl2]at b<;>subst b<;>rfl
noncomputable def wV:Option Int->V
 |some i=>.int i|none=>.non
theorem zeA{K}:∀{os:List (Option Int)}{vs:List V},RVs K ι H (os.map λo=>match o with|some i=>D.int i|none=>D.non) vs->vs=os.map wV
 | [],_,h=>h| o::os,vs,h=>by obtain⟨v,r,rfl,a,b⟩:=h;rw[zeA b];cases o<;>rw[show v=_ from a]<;>rfl
noncomputable def isI(i:Int):Λ->Bool
 |.int j _=>j==i|_=>Δ
theorem zcR(i):∀{os:List (Option Int)}{us:List Λ},Vals (os.map wV) us->(∀y∈us,y=Λ.none\/∃a u,y=Λ.int a u)/\us.countP (isI i)=os.count (Φ i)
 | [],us,r=>by cases r;exact⟨λy b=>by simp at b,rfl⟩| o::os,us,r=>by
  cases r with
  | @cons _ u _ us c f=>
   obtain⟨d,e⟩:=zcR i f;cases o with
   |none=>obtain rfl:u=Λ.none:=c;refine⟨λy b=>?_,?_⟩;rcases mem_cons.mp b with rfl|b;exact .inl rfl;exact d y b;rw[List.countP_cons,e];simp[isI]
   |some j=>obtain⟨t,rfl⟩:∃t,u=Λ.int j t:=c;refine⟨λy b=>?_,?_⟩;rcases mem_cons.mp b with rfl|b;exact .inr ⟨_,_,rfl⟩;exact d y b;rw[List.countP_cons,List.count_cons,e];simp[isI]
noncomputable def isN:Λ->Bool
 |.none=>Γ|_=>Δ
theorem zdQ:∀{os:List (Option Int)}{us:List Λ},Vals (os.map wV) us->us.countP isN=os.count Ψ
 | [],us,r=>by cases r;rfl| o::os,us,r=>by cases r with| @cons _ u _ us a c=>have b:=zdQ c;cases o with| none=>obtain rfl:u=Λ.none:=a;rw[List.countP_cons,b];simp[isN]| some j=>obtain⟨t,rfl⟩:∃t,u=Λ.int j t:=a;rw[List.countP_cons,b];simp[isN]
theorem zlW:MtR X "list.count" (rM X.K .count):=by
 intro pins s σ H x xs v us Qv I rx rv z;obtain⟨ι,S,d,E,Qd,r,rs,G,w,q⟩:=z;unfold R.mt at w;split at w
 case h_3 l i _=>
  obtain⟨a,L,rfl⟩:=r;obtain⟨u,rfl,M⟩:=rs.one;obtain rfl:u=.int i:=M;cases e:S.get l with
  |none=>rw[e]at w;exact w.elim| some o=>
   rw[e]at w;obtain⟨b,m,O⟩:=G.obj _ _ e;rw[L]at m;cases m;cases o with
   |lst E=>obtain⟨zs,Q,A⟩:=O;dsimp only at w;cases c:zbs E with|none=>rw[c]at w;exact w.elim| some os=>rw[c]at w;rw[zfb c]at A;cases zeA A;obtain⟨f,J,U,_⟩:=I.list (SqL.of Q);obtain⟨u1,rfl,g⟩:=Vals.one rv;obtain⟨t,rfl⟩:=g;cases rx;obtain⟨Y,c2⟩:=zcR i J;have hl:=U.isList;obtain⟨⟨cls,dd,B,sl⟩,C,hc,n,hd⟩:=id hl;subst hc hd;refine call_meets PySem.F.slot_list_count ⟨_,C,rfl⟩ PySem.F.entry_list_count (PySem.F.args_list_count_2 _ _) (PySem.SeqAt.list_countAt a f.toArray n dd sl (.int i t) (isI i)) ⟨C,λy hy=>?_,?_⟩;rcases Y y (by simpa using hy) with rfl|⟨j,u,rfl⟩;exact PySem.SeqAt.EqAt.none_int i t;exact PySem.SeqAt.EqAt.int_int j u i t;rw[c2];exact⟨.int _,H,I.tok _,⟨_,rfl⟩,q _ _ (Lf.of (d:=.int _) G rfl w)⟩
   |_=>exact w.elim
 case h_4 l _=>
  obtain⟨a,L,rfl⟩:=r;obtain⟨u,rfl,M⟩:=rs.one;obtain rfl:u=.non:=M;cases e:S.get l with
  |none=>rw[e]at w;exact w.elim| some o=>
   rw[e]at w;obtain⟨b,m,O⟩:=G.obj _ _ e;rw[L]at m;cases m;cases o with
   |lst E=>obtain⟨zs,Q,A⟩:=O;dsimp only at w;cases c:zbs E with|none=>rw[c]at w;exact w.elim| some os=>rw[c]at w;rw[zfb c]at A;cases zeA A;obtain⟨f,J,U,_⟩:=I.list (SqL.of Q);obtain⟨u1,rfl,g⟩:=Vals.one rv;obtain rfl:=g;cases rx;obtain⟨Y,c2⟩:=zcR 0 J;have hl:=U.isList;obtain⟨⟨cls,dd,B,sl⟩,C,hc,n,hd⟩:=id hl;subst hc hd;refine call_meets PySem.F.slot_list_count ⟨_,C,rfl⟩ PySem.F.entry_list_count (PySem.F.args_list_count_2 _ _) (PySem.SeqAt.list_countAt a f.toArray n dd sl .none isN) ⟨C,λy hy=>?_,?_⟩;rcases Y y (by simpa using hy) with rfl|⟨j,u,rfl⟩;exact PySem.SeqAt.EqAt.same _;exact PySem.SeqAt.EqAt.int_none j u;rw[zdQ J];exact⟨.int _,H,I.tok _,⟨_,rfl⟩,q _ _ (Lf.of (d:=.int _) G rfl w)⟩
   |_=>exact w.elim
 all_goals first|exact w.elim|(rename_i h;cases h)
theorem zng{id}(slot:Slot "list" name id)(hty:typeOf (.builtin id)=pure (.type "method_descriptor"))(hm:MtR X id (rM X.K m))(ho:PE X o (tE X.K cf co))(he:PE X e (tE X.K cf ce))(hst:zai e=Γ)(hsup:zbz o=Γ)(hl:(apos.endLine==cpos.line)=Γ):
  PE X (.Call (.Attribute o name apos) [e] [] cpos) (tE X.K cf (.mt m co (.cons ce .nil))):=by
 refine PE.imp (zp6 PySem.F.plainAttrs_list slot hty hm ho (ziZ he zmh hst) (zd8 hsup name X.env _) (by rw[zaj hst];rfl) hl (zaj hst [] X.env)) λσ H Qv k=>?_;obtain⟨δ,ι,S,Q,hs,hh,w,q⟩:=k;change W (Out.bind _ _) _ at w;simp only[zab] at w;refine tE.run hs hh w λd v ι1 H1 S1 x1 hs1 hh1 r1 w1=>?_;split at w1;rename_i c;refine⟨zmy hh1 r1 c,?_⟩;rw[zab]at w1;exact tAs.run hs1 hh1 w1 λds vs ι2 H2 S2 x2 hs2 hh2 r2 w2=>⟨ι2,S2,d,ds,Q,r1.ext x2,r2,hh2,w2,λz H3 l=>q z H3 (Lf.up (x1.trans x2) l)⟩;exact w1.elim
theorem SqK.seq{K}(h:SqK K ι H S a xs g b):SqL K H a xs\/SqT K H a xs:=by cases h with|tmp h e=>exact .inl (SqL.of e)|tup e=>exact .inr (SqT.of e)|fix e=>exact .inl e.sq|own l c d f e=>exact .inl (SqL.of e)
theorem zpf(r:PE X e (tE X.K cf s)):PE X e (tL X.K cf (.val s)):=by
 refine PE.imp r λJ H L z=>?_;obtain⟨M,O,S,Q,t,u,w,q⟩:=z;change W (Out.bind _ _) _ at w;simp only[zab] at w;refine tE.run t u w λd v i x m y A c j B=>?_;obtain⟨C,b,E⟩:=zau B;refine q v x ⟨C,lkOf m d,i,m,y,?_,c,E⟩;cases d with
 |tup G=>cases b;obtain⟨a,f,rfl,g,h⟩:=j;exact⟨a,f,rfl,h,.tup g⟩| fix G=>cases b;obtain⟨a,f,rfl,g,h⟩:=j;exact⟨a,f,rfl,h,.fix g⟩| ref l=>simp only[zct]at b;split at b;rename_i I e;cases b;obtain⟨a,n,rfl⟩:=j;obtain⟨U,o,f,g,h⟩:=c.obj _ _ e;rw[n]at o;cases o;exact⟨a,f,rfl,h,.own l (by simp[lkOf]) n e g⟩;exact nS b
 |_=>exact nS b
theorem zaA(b:PE X e c)(a:zai e=Γ):PA X [e] (zo7 c tNil):=zdt b zjp (zaj a [] X.env)
theorem zpl(G:Gd T cf k N sc X)(m:Gl X "tuple"/\X.mg "tuple"=Ψ)(u:PE X e (tL X.K cf cl))(c:zai e=Γ):PE X (.Call (.Name "tuple" p) [e] [] pos) (tE X.K cf (.mkT cl)):=by
 refine PE.imp (zaN ze4 m.1 m.2 ze6 (zaA u c) (by decide) (by decide) (zaj c [] X.env)) λJ H n z=>?_;obtain⟨L,M,S,Q,o,x,w,q⟩:=z;change W (Out.bind _ _) _ at w;simp only[zab] at w;refine tL.run o x w λy A v B b O r C f E g=>?_;split at g;obtain⟨a,i,rfl,s,I⟩:=E;have fresh:SqL X.K b a i->∃p j,[V.ref a]=[V.ref p]/\((SqL X.K b p j/\∀l,b l=Ψ->n (.ref l) (upd b l (.tup j)))\/(SqT X.K b p j/\n (.ref p) b)):=λh=>⟨a,i,rfl,.inl ⟨h,λl t=>q _ _ (Lf.up r (Lf.tup f t s g))⟩⟩;cases I with|tmp h e=>exact fresh (SqL.of e)|fix e=>exact fresh e.sq|own l t U o e=>exact fresh (SqL.of e)|tup e=>exact⟨a,i,rfl,.inr ⟨SqT.of e,q _ _ (Lf.up r (Lf.of (d:=.tup y) f ⟨a,i,rfl,e,s⟩ g))⟩⟩
 exact g.elim
theorem zmf(G:Gd T cf k N sc X)(f:Gl X "list"/\X.mg "list"=Ψ)(g:PE X e (tL X.K cf cl))(b:zai e=Γ):PE X (.Call (.Name "list" p) [e] [] pos) (tE X.K cf (.mkL cl)):=by refine PE.imp (zaN zfW f.1 f.2 zgL (zaA g b) (by decide) (by decide) (zaj b [] X.env)) λB H C z=>?_;obtain⟨E,I,S,Q,h,i,w,q⟩:=z;change W (Out.bind _ _) _ at w;simp only[zab] at w;refine tL.run h i w λJ j v m L M n o d r s=>?_;obtain⟨c,t⟩:=zcd s;obtain⟨a,u,rfl,x,y⟩:=r;exact⟨a,u,rfl,y.seq,λl A=>q _ _ (Lf.up n (Lf.lst d A x t))⟩
theorem zjx(h:tE X.K cf (.mkL cl) σ H m):tLt X.K cf cl σ H m:=by obtain⟨C,E,S,Q,n,r,w,q⟩:=h;change W (Out.bind _ _) _ at w;simp only[zab] at w;refine tLt.run n r w λs p t g G i d u a v x e y A=>?_;obtain⟨c,B⟩:=zcd A;refine q _ _ ⟨.ref i.len,g++[p],i.push (.lst s),?_,⟨p,a.last p,rfl⟩,a.one (l:=0) x ⟨t,e,v.up (prefix_append _ _) (Kp.refl _)⟩,B⟩;refine⟨d.pre.trans (prefix_append _ _),d.kp,λb o j f=>⟨(d.rest b o j f).1,λz=>?_⟩⟩;rcases mem_append.mp z with z|z;exact(d.rest b o j f).2 z;simp at z;subst z;rw[y]at f;exact nS f
theorem zpr(C:PE X o (tE X.K cf E))(G:PE X e (tLt X.K cf cl))(f:zai e=Γ)(h:zbz o=Γ)(I:(i.endLine==j.line)=Γ):
  PE X (.Call (.Attribute o "extend" i) [e] [] j) (tE X.K cf (.ext E cl)):=by
 refine PE.imp (zp6 PySem.F.plainAttrs_list PySem.F.slot_list_extend PySem.F.type_list_extend zjw C (zaA G f) (zd8 h "extend" X.env _) (by rw[zaj f];rfl) I (zaj f [] X.env)) λσ H Qv z=>?_;obtain⟨δ,ι,S,Q,J,L,w,q⟩:=z;change W (Out.bind _ _) _ at w;simp only[zab] at w;refine tE.run J L w λd v M H1 S1 O s m t r=>?_;split at r;rename_i c;refine⟨zmy m t c,?_⟩;rw[zab]at r;refine tLt.run s m r λds b U Y H2 S2 u hs2 n x _ hb _ g=>?_;cases d with
 |ref l=>obtain⟨a,y,rfl⟩:=t.ext u;dsimp only at g;cases e:S2.get l with|none=>rw[e]at g;exact g.elim| some o=>rw[e]at g;cases o with| lst es=>obtain⟨b',A,zs,ha,B⟩:=n.obj _ _ e;rw[y]at A;cases A;obtain⟨c2,S',hp,w3⟩:=zmO g;refine⟨a,b,zs,U,rfl,rfl,ha,hb,?_,q _ _ (Lf.up (O.trans u) (Lf.wr (d:=.non) n e y hp (B.append x) rfl w3))⟩;rw[B.length,x.length,<-length_append];exact c2|_=>exact g.elim
 |_=>exact g.elim
 exact r.elim
theorem zhD:bootBuiltins "range"=Φ (.type "range"):=by decide +kernel
theorem zfm:za0 X (.type "range") (λxs H Q=>∃j,xs=[.int j]/\∀p,H p=Ψ->Q (.ref p) (upd H p (.rng 0 j))):=by intro a s d H xs f Q I r h;obtain⟨j,rfl,q⟩:=h;obtain⟨u,rfl,c⟩:=r.one;obtain⟨t,rfl⟩:=c;refine call_range_1 ⟨.ref s.heap.objs.size,_,I.laid (o:=.rng 0 j) (λb g e=>Ω _ e) (le_refl _) ?_,rfl,q _ (I.hok.fresh (le_refl _))⟩;exact⟨_,_,_,Ι _ rfl⟩
theorem zlE(C:X.calm=Γ):za0 X (.type "list") (λxs H Q=>∃p b,xs=[.ref p]/\H p=Φ (.rng 0 b)/\-(2^62)<=b/\b<2^62/\b.toNat<=16777216/\∀l,H l=Ψ->Q (.ref l) (upd H l (.lst ((List.range b.toNat).map λ(j:Nat)=>.int j)))):=by
 intro x s σ H xs a Q I r h;obtain⟨p,b,rfl,E,G,J,y,q⟩:=h;obtain⟨u,rfl,L⟩:=r.one;cases(show u=Λ.ref p from L);obtain⟨t,t2,t3,e⟩:=(show ObjOk X.prog X.w H s.heap p (.rng 0 b) from I.hok p _ E);have M:Builtin.Range.rangeSize 0 b 1=(b.toNat:Nat):=by rw[rangeSize_one];split<;>lia
 refine call_list_range (I.ok.hd C) e (small_one (by decide) (by decide) G J) M y λh' tk i c O U A=>?_;refine⟨.ref s.heap.objs.size,_,I.laid (o:=.lst _) O (le_refl _) ⟨?_,i.toList,c,?_,?_⟩,rfl,q _ (I.hok.fresh (le_refl _))⟩;rw[length_map,length_range,ϔ];exact y;have m:∀(n:Nat)(a:List Λ),a.length=n->(∀(j:Nat)(v:Λ),a[j]?=Φ v->∃t,v=Λ.int (0+(j:Int)*1) t)->Vals ((List.range n).map λ(j:Nat)=>V.int j) a:=by
  intro n;induction n with
  |zero=>intro a g _;cases a with
   |nil=>exact .nil|cons _ _=>simp at g
  |succ n Y=>
   intro a g B;have d:a≠[]:=by intro z;subst z;simp at g
   have w:a=a.dropLast++[a.getLast d]:=(List.dropLast_concat_getLast d).symm;rw[List.range_succ,map_append,w];have f:a.dropLast.length=n:=by simp[g]
   refine Vals.append (Y _ f λj v e=>B j v ?_) (.cons ?_ .nil);have hj:j<a.dropLast.length:=(Β.mp e).1;rw[w,getElem?_append_left hj];exact e;obtain⟨t,e⟩:=B n (a.getLast d) (by
    conv=>lhs;rw[w]
    rw[getElem?_append_right (by lia)];simp[f])
   exact⟨t,by simpa using e⟩
 exact m _ _ (by simpa using A.1) λj v e=>A.2 j v (by simpa using e);simpa using U
theorem znh(G:Gd T cf k N sc X)(r:Gl X "list"/\X.mg "list"=Ψ)(s:Gl X "range"/\X.mg "range"=Ψ)(u:PE X a (tE X.K cf x))(b:zai a=Γ):
  PE X (.Call (.Name "list" p) [.Call (.Name "range" y) [a] [] e] [] pos) (tE X.K cf (.mkL (.rng1 x))):=by
 have h:=zaN (p:=y) (pos:=e) zfm s.1 s.2 zhD (zaA u b) (by decide) (by decide) (zaj b [] X.env);refine PE.imp (zaN (zlE G.calm) r.1 r.2 zgL (zaA h rfl) (by decide) (by decide) rfl) λU H Y z=>?_;obtain⟨δ,ι,S,Q,A,B,w,q⟩:=z;change W (Out.bind (Out.bind _ _) _) _ at w;simp only[zab]at w;refine tE.run A B w λd v i C S1 E I n J f=>?_;cases d with| int j=>obtain rfl:v=.int j:=J;dsimp only at f;split at f;rename_i c;obtain⟨L,M⟩:=zcd f;refine⟨j,rfl,λt g=>⟨t,j,rfl,zao,c.1,c.2,by simpa[ϔ]using L,λl O=>?_⟩⟩;have o:=n.new g (.rng 0 j);refine q _ _ (Lf.up (E.trans (Ext.new g _)) (Lf.lst o O ?_ M));have:=RVs.ints (K:=X.K) (ι:=i) (H:=upd C t (.rng 0 j)) ((List.range j.toNat).map λ(m:Nat)=>(m:Int));rw[map_map,map_map]at this;exact this;exact f.elim|_=>exact f.elim
theorem zoD{bs:List Bool}(h:a.mapM zev=Φ bs):a=bs.map D.bl:=by
 induction a generalizing bs with
 |nil=>
  have h:bs=[]:=by simpa using h.symm
  subst h;rfl
 |cons d a c=>obtain⟨y,r,b,e,rfl⟩:=zaF h;cases d<;>simp[zev]at b;subst b;rw[c e];rfl
theorem RVs.bls_eq{K}:∀{bs:List Bool}{vs:List V},RVs K ι H (bs.map D.bl) vs->vs=bs.map V.bl
 | [],_,h=>h| b::bs,vs,h=>by obtain⟨v,r,rfl,a,c⟩:=h;rw[RVs.bls_eq c,show v=.bl b from a];rfl
theorem ziF{bs:List Bool}(r:Vals (bs.map V.bl) us):us=bs.map Λ.bool:=by induction bs generalizing us with|nil=>cases r;rfl| cons b bs a=>cases r with|cons c d=>rw[a d,show _=Λ.bool b from c];rfl
theorem zkG(bs:List Bool):(List.range bs.length).all (λi=>bs.getD i Δ)=bs.all id:=by
 rw[Bool.eq_iff_iff,all_eq_true,all_eq_true];constructor;intro h b c;obtain⟨i,a,e⟩:=List.getElem_of_mem c;have:=h i (by simpa using a);rw[ϊ,Ε a,e]at this;exact this;intro h i a;have a:i<bs.length:=by simpa using a
 rw[ϊ,Ε a];exact h _ (ϕ a)
theorem zoH(J:X.calm=Γ):za0 X (.builtin "all") (λxs H Q=>∃(a:Addr) (bs:List Bool),xs=[.ref a]/\(SqL X.K H a (bs.map V.bl)\/SqT X.K H a (bs.map V.bl))/\Q (.bl (bs.all id)) H):=by
 intro l s L H xs us Q I r h;obtain⟨a,bs,rfl,y,q⟩:=h;obtain⟨u,rfl,O⟩:=r.one;cases(show u=Λ.ref a from O);have hA:X.A.in1.in1.handled=Ψ:=I.ok.hd J;have A:X.A.in1.handled=Ψ:=I.ok.hd J;have M:∀(d:Array Λ),d.toList=bs.map Λ.bool->TruthOf X.prog X.w X.A.in1 (λi v=>d[i]?=Φ v) (λi=>bs.getD i Δ):=by
  intro d e i v s' Q' E' U G;have f:d.toList[i]?=Φ v:=by rw[Χ];exact U
  rw[e,getElem?_map]at f;cases z:bs[i]? with
  |none=>rw[z]at f;exact nS f
  |some b=>rw[z]at f;simp only[Option.map_some,Option.some.injEq]at f;subst f;dsimp only at G;rw[ϊ,z]at G;exact Ϟ G
 have fin:∀(m:Heap)(x n:Nat)(B:Η)(it:Addr),n=bs.length->s.heap.objs.size=it->Inv X l L H B->B.os=s.os->(∀b o,b∉[it]->B.heap.get? b=Φ o->m.get? b=Φ o)->
   EP X l L Q (.bool ((List.range n).all λi=>bs.getD i Δ)) {B with heap:=m,toks:=x}:=by
  intro m x n B it Y hit I2 ho C;subst Y;rw[zkG];have fp:=I.fpOk (b:=it) (H':=H) (by lia) (I.hok.fresh (by lia));obtain⟨f0,f1,f2,f3,f4,f5⟩:=fp;exact⟨.bl _,H,I2.turned (it:=it) (λb o hb e=>C b o (by simpa using hb) e) f0 f1 f3 f4 f5,rfl,q⟩
 rcases y with y|y;obtain⟨g,E,t,hz⟩:=I.list y;have hits:=ziF E;have j:=E.length;refine call_all_walk (wpAny_pyIter_list t.isList ?_);have w:a≠s.heap.objs.size:=by obtain⟨o,n,e,_⟩:=t;exact ne_of_lt (Κ e)
 refine⟨s.heap.objs.size,_,_,_,_,_,_,rfl,Walks.list A _ a w g.toArray,⟨⟨_,Ι _ rfl,rfl,rfl⟩,t.isList.push _⟩,M g.toArray (by simpa using hits),λm x C=>?_⟩;exact fin m x _ _ _ (by simpa using j.symm) rfl (I.kept (t':=s.toks) λb o e=>Ω _ e) rfl C;obtain⟨g,E,t,hz⟩:=I.tuple y;have hits:=ziF E;have j:=E.length;refine call_all_walk (wpAny_pyIter_tuple (show s.heap.IsTuple a g.toArray from t) ?_);have w:a≠s.heap.objs.size:=by obtain⟨o,e,_⟩:=t;exact ne_of_lt (Κ e)
 refine⟨s.heap.objs.size,_,_,_,_,_,_,rfl,Walks.tuple A _ a w g.toArray,⟨⟨_,Ι _ rfl,rfl,rfl⟩,?_⟩,M g.toArray (by simpa using hits),λm x C=>?_⟩;obtain⟨o,e,c⟩:=t;exact⟨o,Ω _ e,c⟩;exact fin m x _ _ _ (by simpa using j.symm) rfl (I.kept (t':=s.toks) λb o e=>Ω _ e) rfl C
theorem zpv(G:Gd T cf k N sc X)(h:Gl X "all"/\X.mg "all"=Ψ)(l:PE X e (tL X.K cf cl))(f:zai e=Γ):PE X (.Call (.Name "all" p) [e] [] pos) (tE X.K cf (.all cl)):=by
 refine PE.imp (zbY (zoH G.calm) h.1 h.2 zq8 (zaA l f) (by decide) (by decide) (zaj f [] X.env)) λC H E z=>?_;obtain⟨I,J,S,Q,m,n,w,q⟩:=z;change W (Out.bind _ _) _ at w;simp only[zab] at w;refine tL.run m n w λo r v s L M t u g x y=>?_;obtain⟨b,c,A⟩:=zau y;unfold allD at c;cases e:o.mapM zev with
 |none=>rw[e]at c;exact nS c
 |some i=>
  rw[e]at c;have c:b=i.all id:=by simpa using c.symm
  subst c;obtain⟨a,O,rfl,j,B⟩:=x;rw[zoD e]at j;have:=j.bls_eq;subst this;exact⟨a,i,rfl,B.seq,q _ _ (Lf.up t (Lf.of (d:=.bl _) g rfl A))⟩
end
section
variable{prog:Τ}{w:ϐ}{A:ϑ}{E:Λ->Η->Prop}{s:Η}
noncomputable abbrev set0(b:Bool):Obj:={cls:=.type "set",dict:=Ψ,data:=.set #[] 0 (.fresh 0 0 b)}
set_option maxHeartbeats 6400000 in
theorem ziU(hc:A.handled=Ψ)(ht:IsTup s.heap t its)(hi:IntsAre its.toList ms)(hb:its.size+1<scanBound)(fin:∀(g:Heap)(tk:Nat),g.SetOf (intKind prog w) s.heap.objs.size (λz=>(firstMet (λi=>ms.getD i 0) its.size).any (·==z)) (firstMet (λi=>ms.getD i 0) its.size).length->
   (∀b o,b<s.heap.objs.size->s.heap.get? b=Φ o->g.get? b=Φ o)->Q (.ref s.heap.objs.size) {s with heap:=g,toks:=tk}):wpAny (model prog w) A (call (.type "set") [.ref t]) Q E s:=by
 obtain⟨mc,mt,hmro⟩:=F.called_set.mro;have c1:=F.called_set.made;have c2:=F.called_set.sub;refine wpAny_call (codeAny_of_tree ?_);show wpAny _ _ (callAny (.type "set") _) _ _ _;refine Ξ ⟨Code.quiet_builtin _ (by decide +kernel),Ϝ F.entry_type_call ?_⟩;rw[ϑ.under_plain (weight_type_call_type "set" [.ref t] []) rfl];have c3:=F.called_set.notType;have c4:=F.called_set.canCreate;have c5:=F.typeCall_set_1 (.ref t)
 repeat (any_goals (first|assumption|wp_step))
 refine ϩ (code_set_new_1 (.ref t) (E:=E) (Q₁:=λo z=>∃led:Bool,o=.ref s.heap.objs.size/\z={s with heap:=s.heap.push (set0 led)}) λled=>⟨led,rfl,rfl⟩) λr z hr=>?_;cases r with
 |error e=>exact hr| ok fl=>
  cases fl with
  |ret o=>
   obtain⟨led,rfl,rfl⟩:=hr;have g0:(s.heap.push (set0 led)).get? s.heap.objs.size=Φ (set0 led):=Ι _ rfl;have g1:Η.TypeIs {s with heap:=s.heap.push (set0 led)} (.ref s.heap.objs.size) "set":=⟨_,g0,rfl⟩;have c6:=F.called_set.init.lookup;have c7:=F.called_set.init.bind (.ref s.heap.objs.size)
   repeat (any_goals (first|assumption|wp_step))
   refine ϩ (codeAny_call_builtin (R:=wants (λr z=>r=.none/\∃g tk,z={s with heap:=g,toks:=tk}/\
    g.SetOf (intKind prog w) s.heap.objs.size (λz=>(firstMet (λi=>ms.getD i 0) its.size).any (·==z)) (firstMet (λi=>ms.getD i 0) its.size).length/\
    (∀b o,b<s.heap.objs.size->s.heap.get? b=Φ o->g.get? b=Φ o)) E) F.called_set.init.plain F.entry_set_init (check_set_init_1 g1 ?_)) λr2 z2 hr2=>?_
   . obtain⟨⟨oc,od,oda,osl⟩,ho,hcl,nl,hda⟩:=id ht;simp only at hcl hda;subst hcl hda;have ho':(s.heap.push (set0 led)).get? t=Φ {cls:=.type "tuple",dict:=od,data:=.seq its nl,slots:=osl}:=Ω _ ho;have d1:=F.sub_tuple_set;have d2:=F.sub_tuple_frozenset;have d3:(Λ.type "tuple" == Λ.type "dict")=Δ:=by decide
     have ht1:(s.heap.push (set0 led)).IsTuple t its:=⟨_,ho',rfl,nl,rfl⟩;unfold Builtin.«set.__init__» noKeywords Builtin.Frozenset.updateFrom;generalize hPI:pyIter=PI
     wp_walk
     subst hPI;refine wpAny_pyIter_tuple ht1 ?_;refine Θ (wpAny_runValue ?_);have tl:t<s.heap.objs.size:=Κ ho;have tn:t≠(s.heap.push (set0 led)).objs.size:=by rw[ϒ];exact ne_of_lt (ϝ tl)
     have sn:s.heap.objs.size∉[(s.heap.push (set0 led)).objs.size,t]:=by rw[ϒ];simp only[mem_cons,not_mem_nil,or_false,not_or];exact⟨ne_of_lt (ϧ _),ne_of_gt tl⟩
     refine codeAny_set_update_loopS ((Walks.tuple (by simp[hc]) _ t tn its).toS) s.heap.objs.size sn (λi=>ms.getD i 0) (λi v hv=>IntsAre.int_at hi i v (by rw[Χ];exact hv)) hb (its.size-0) 0 _ (by lia) (zero_le _)
      ⟨⟨_,Ι _ rfl,rfl,rfl⟩,⟨_,Ω _ ho',rfl,nl,rfl⟩⟩ ?start ?last
     case start=>exact SetOf_congr ((setObjOf_fresh (knd:=intKind prog w) led).setOf (Ω _ g0) (by unfold scanBound;lia)) (λ_=>rfl) rfl
     case last=>rintro⟨g,gg,dd,tk,oo⟩ mv hS;obtain rfl:gg=s.gens:=mv.gens;obtain rfl:dd=s.drawn:=mv.drawn;obtain rfl:oo=s.os:=mv.os;show wpAny _ _ _ _ _ _;refine Ξ ?_;show wpAny _ _ (ret Λ.none) _ _ _;refine Ξ ⟨rfl,g,tk,rfl,hS,λb o hb e=>mv.heap b o ?_ (Ω _ (Ω _ e))⟩;rw[ϒ];simp only[mem_cons,not_mem_nil,or_false,not_or];exact⟨ne_of_lt hb,ne_of_lt (ϝ hb)⟩
   cases r2 with
   |error e=>exact hr2| ok f2=>
    cases f2 with
    |ret r=>
     obtain⟨rfl,g,tk,rfl,hS,hk⟩:=hr2
     repeat (any_goals (first|assumption|wp_step))
     exact fin _ _ hS hk
    |_=>exact hr2.elim
  |_=>exact hr.elim
end
section
variable{T:Tab}{cf:CF}{k:Nat}{N:List Str}{sc:Scope}{X:Cx}{pos p p2 pos':Pos}
theorem zcB(ns):R.dedup ns=firstMet (λi=>ns.getD i 0) ns.length:=by
 unfold R.dedup firstMet;have e:(List.range ns.length).map (λi=>ns.getD i 0)=ns:=by apply ext_getElem?;intro i;rw[getElem?_map];by_cases h:i<ns.length;simp[h,ϊ];simp[h,ϛ (Nat.le_of_not_lt h)]
 rw[e];congr 1;funext a x;unfold step_dedup;simp[List.contains_eq_any_beq]
theorem zkV(y:X.calm=Γ):za0 X (.type "set") (λxs H Q=>∃(a:Addr) (ns:List Int),xs=[.ref a]/\(SqL X.K H a (ns.map V.int)\/SqT X.K H a (ns.map V.int))/\ns.length<4000/\∀p,H p=Ψ->∀S,Q (.ref p) (upd H p (.set S (R.dedup ns).length))):=by
 intro f s z H xs C Q I r h;obtain⟨a,ns,rfl,i,E,q⟩:=h;obtain⟨u,rfl,A⟩:=r.one;cases(show u=Λ.ref a from A);have fresh:=I.hok.fresh (le_refl s.heap.objs.size);have lay:∀(g:Heap)(d n:Nat)(F:Int->Bool),n=(R.dedup ns).length->g.SetOf (intKind X.prog X.w) s.heap.objs.size F n->(∀b o,b<s.heap.objs.size->s.heap.get? b=Φ o->g.get? b=Φ o)->EP X f z Q (.ref s.heap.objs.size) {s with heap:=g,toks:=d}:=by intro g d n F B j l;subst B;exact⟨.ref s.heap.objs.size,_,I.laid (o:=.set F _) (λb o e=>l b o (Κ e) e) (le_refl _) j,rfl,q _ fresh F⟩
 have x:X.A.handled=Ψ:=I.ok.hd y;rcases i with i|i;obtain⟨c,m,v,w⟩:=I.list i;have t:c.toArray.size=ns.length:=by rw[size_toArray,<-m.length,length_map]
 refine call_set_list x v.isList (zbq m) (by rw[t];unfold scanBound;lia) λg d j l=>lay g d _ _ ?_ j l;rw[zcB,t];obtain⟨c,m,v,w⟩:=I.tuple i;have t:c.toArray.size=ns.length:=by rw[size_toArray,<-m.length,length_map]
 refine ziU x v (zbq m) (by rw[t];unfold scanBound;lia) λg d j l=>lay g d _ _ ?_ j l;rw[zcB,t]
theorem zn6:za0 X (.builtin "len") (λxs H Q=>∃p S n,xs=[.ref p]/\H p=Φ (.set S n)/\n<4096/\Q (.int n) H):=by intro a s j H xs l Q I r h;obtain⟨p,S,n,rfl,b,m,q⟩:=h;obtain⟨u,rfl,c⟩:=r.one;cases(show u=Λ.ref p from c);obtain⟨o,t,v,w,d,e,f,_,_,_,g,i⟩:=(show ObjOk X.prog X.w H s.heap p (.set S n) from I.hok p _ b);subst i;exact call_len_set d e f g (by cutsat) ⟨.int _,H,I.tok _,⟨_,rfl⟩,q⟩
theorem zfT(ns):(R.dedup ns).length<=ns.length:=by rw[zcB];exact firstMet_length_le _ _
theorem ziX(G:Gd T cf k N sc X)(m:Gl X "len"/\X.mg "len"=Ψ)(n:Gl X "set"/\X.mg "set"=Ψ)(r:PE X e (tL X.K cf cl))(b:zai e=Γ):
  PE X (.Call (.Name "len" p) [.Call (.Name "set" p2) [e] [] pos'] [] pos) (tE X.K cf (.lenset cl)):=by
 have g:=zaN (p:=p2) (pos:=pos') (zkV G.calm) n.1 n.2 zkB (zaA r b) (by decide) (by decide) (zaj b [] X.env);refine PE.imp (zbY zn6 m.1 m.2 zmJ (zaA g rfl) (by decide) (by decide) rfl) λL H M z=>?_;obtain⟨O,U,S,Q,s,t,w,q⟩:=z;change W (Out.bind _ _) _ at w;simp only[zab] at w;refine tL.run s t w λu x v y Y S1 A B h C E=>?_;obtain⟨i,j,l⟩:=zau E;split at l;rename_i c;obtain⟨a,xs,rfl,o,I⟩:=C;have j:zaG u=Φ i:=j;rw[zcA j]at o;have:=o.ints_eq;subst this;have hd:=zfT i;exact⟨a,i,rfl,I.seq,c,λJ f F=>⟨J,F,_,rfl,zao,by lia,(q _ _ (Lf.up (A.trans (Ext.new f _)) (Lf.of (d:=.int _) (h.new f _) rfl l)))⟩⟩;exact l.elim
end
end R
namespace R
open PySem
abbrev Rise(xs:Array Nat):Prop:=xs.toList.Pairwise (· < ·)
theorem zdi(h:Rise xs)(hij:i<j)(hj:j<xs.size):xs[i]'(by lia)<xs[j]:=by have:=List.pairwise_iff_getElem.mp h i j (by simpa using(by lia:i<xs.size)) (by simpa using hj) hij;simpa using this
theorem ze5(xs)(j)(h:Rise xs):∀(f lo a:Nat),a-lo<=f->lo<=a->a<=xs.size->(∀i (b:i<xs.size),i<lo->xs[i]<j)->(∀i (b:i<xs.size),a<=i->j<=xs[i])->
  SetTable.below.go xs j f lo a<=xs.size/\(∀i (b:i<xs.size),i<SetTable.below.go xs j f lo a->xs[i]<j)/\∀i (b:i<xs.size),SetTable.below.go xs j f lo a<=i->j<=xs[i]
 |0,lo,a,o,p,d,g,k=>by
  have:lo=a:=by lia
  subst this;exact⟨d,g,k⟩
 |f+1,lo,a,o,p,d,g,k=>by
  unfold SetTable.below.go;by_cases c:lo<a;rw[if_pos c];have n:(lo+a)/2<xs.size:=by lia
  have e:xs.getD ((lo+a)/2) j=xs[(lo+a)/2]:=by simp[Array.getD,n]
  dsimp only;rw[e];by_cases l:xs[(lo+a)/2]<j;rw[if_pos l];refine ze5 xs j h f _ _ (by lia) (by lia) d (λi b m=>?_) k;by_cases q:i=(lo+a)/2;subst q;exact l;exact lt_trans (zdi h (show i<(lo+a)/2 by lia) n) l;rw[if_neg l];refine ze5 xs j h f _ _ (by lia) (by lia) (by lia) g λi b m=>?_;by_cases q:i=(lo+a)/2;subst q;lia;have:=zdi h (show(lo+a)/2<i by lia) b;lia;rw[if_neg c];have:lo=a:=by lia
  subst this;exact⟨d,g,k⟩
theorem zb2(h:Rise xs)(j):SetTable.below xs j<=xs.size/\(∀i (a:i<xs.size),i<SetTable.below xs j->xs[i]<j)/\∀i (a:i<xs.size),SetTable.below xs j<=i->j<=xs[i]:=ze5 xs j h xs.size 0 xs.size (by lia) (zero_le _) (le_refl _) (λi _ q=>by lia) (λi a q=>by lia)
theorem zey(h:Rise xs)(b:i<xs.size):SetTable.below xs (xs[i]+1)=i+1:=by
 obtain⟨f,d,e⟩:=zb2 h (xs[i]+1);have g:¬SetTable.below xs (xs[i]+1)<=i:=λc=>by have:=e i b c;lia
 by_cases c:i+1<SetTable.below xs (xs[i]+1);have a:i+1<xs.size:=by lia
 have j:=d (i+1) a c;have k:=zdi h (show i<i+1 by lia) a;lia;lia
theorem zex(h:Rise xs):SetTable.below xs 0=0:=by obtain⟨b,a,c⟩:=zb2 h 0;cases e:SetTable.below xs 0 with|zero=>rfl|succ n=>exact absurd (a 0 (by lia) (by lia)) (Nat.not_lt_zero _)
theorem zck(xs)(p)(x:a):(SetTable.insertAt xs p x).toList=xs.toList.take p++x::xs.toList.drop p:=by unfold SetTable.insertAt;simp[List.take_of_length_le]
theorem zdj(h:Rise xs)(o:xs[SetTable.below xs j]?≠Φ j):Rise (SetTable.insertAt xs (SetTable.below xs j) j):=by
 obtain⟨w,r,f⟩:=zb2 h j;generalize SetTable.below xs j=p at *;unfold Rise;rw[zck,List.pairwise_append];refine⟨h.sublist (List.take_sublist _ _),?_,?_⟩;rw[pairwise_cons];refine⟨λy s=>?_,h.sublist (List.drop_sublist _ _)⟩;obtain⟨i,c,e⟩:=ϓ.mp s;have d:p+i<xs.size:=by simp at c;lia
 have e:xs[p+i]=y:=by simpa using e
 have q:=f (p+i) d (by lia);have x:xs[p+i]≠j:=λz=>by
  cases i with
  |zero=>exact o (by rw[ώ (by lia)];exact congrArg Φ z)| succ i=>
   have t:p<xs.size:=by lia
   have:=zdi h (show p<p+(i+1) by lia) d;have:=f p t (le_refl _);lia
 lia;intro a u b g;obtain⟨i,c,e⟩:=ϓ.mp u;have d:i<xs.size:=by simp at c;lia
 have k:i<p:=by simp at c;lia
 have e:xs[i]=a:=by simpa using e
 have q:=r i d k;rcases mem_cons.mp g with rfl|g;lia;obtain⟨m,v,n⟩:=ϓ.mp g;have l:p+m<xs.size:=by simp at v;lia
 have n:xs[p+m]=b:=by simpa using n
 have:=f (p+m) l (by lia);lia
theorem zgD(t)(c)(h):∀(f:Nat)(p:SetTable.Probe)(j:Nat)(d:Option Nat),(∀x,p.dummy=Φ x->t.slot x=.dummy)->SetTable.probe.go t c h f p=Φ (.empty j d)->t.slot j=.empty/\∀x,d=Φ x->t.slot x=.dummy
 |0,p,j,d,g,e=>nS e| f+1,p,j,d,g,e=>by
  unfold SetTable.probe.go at e;have adv:∀q:SetTable.Probe,(t.advance q).dummy=q.dummy:=λq=>by unfold SetTable.advance;split<;>rfl
  cases a:t.slot p.j with|empty=>rw[a]at e;cases e;exact⟨a,g⟩| dummy=>rw[a]at e;refine zgD t c h f _ j d (λx b=>?_) e;rw[adv]at b;cases b;exact a| live i=>rw[a]at e;dsimp only at e;split at e;cases e;exact zgD t c h f _ j d (λx b=>g x (by rw[adv]at b;exact b)) e
theorem zoo{t:SetTable}(e:t.freeSlot h=Φ (slot,b)):t.place[SetTable.below t.place slot]?≠Φ slot:=by
 unfold SetTable.freeSlot at e;split at e;rename_i j d f;obtain⟨g,i⟩:=zgD t _ h _ _ j d (λx a=>nS a) f;cases e;have c:∀x,(t.slot x=.empty\/t.slot x=.dummy)->t.place[SetTable.below t.place x]?≠Φ x:=λx a z=>by unfold SetTable.slot at a;rw[if_pos (by simpa using z)]at a;rcases a with q|q<;>cases q
 cases d with|none=>exact c j (.inl g)|some x=>exact c x (.inr (i x rfl))
 exact nS e
theorem zbV(n):Rise (Array.range n):=by unfold Rise;rw[Array.toList_range];exact List.pairwise_lt_range
structure TOk(b:Bool)(t:SetTable):Prop where
 led:t.led=b
 rise:Rise t.place
theorem zqG(h:TOk b t)(es)(x)(v):TOk b (layNew t es x v).2.1:=by unfold layNew;split;rename_i slot d e;have a:TOk b (t.put slot).1:=⟨h.led,zdj h.rise (zoo e)⟩;dsimp only;unfold SetTable.orStandIn;split;exact a;exact⟨a.led,zbV _⟩;exact⟨h.led,zbV _⟩
theorem zk9(h:TOk b t)(es)(n):TOk b (relayAll t es n).2.1:=by
 unfold relayAll;split;rename_i m o e;have d:TOk b m:=by
  unfold SetTable.relaid SetTable.laid at e;cases j:SetTable.layClean (SetTable.sizeAbove n-1) (es.map (·.1)) with
  |none=>rw[j]at e;exact nS e
  |some k=>
   rw[j]at e;cases e;refine⟨h.led,?_⟩;show Pairwise _ (List.map _ _);rw[pairwise_map,List.pairwise_filterMap];refine List.pairwise_lt_range.imp λ{x y} i a f c g=>?_;cases d:k.getD x Ψ with
   |none=>rw[d]at f;exact nS f
   |some u=>
    cases l:k.getD y Ψ with
    |none=>rw[l]at g;exact nS g
    |some p=>rw[d]at f;rw[l]at g;cases f;cases g;exact i
 dsimp only;split;exact d;exact⟨h.led,zbV _⟩;exact⟨h.led,zbV _⟩
end R
namespace R
open PySem PySem.Spec PyProof.Rows
section
variable{prog:Τ}{w:ϐ}{A:ϑ}{E:Λ->Η->Prop}{s:Η}
noncomputable abbrev byT(w:ϐ):Bool:=w.params.followText "set-order"
def SetD(prog:Τ)(w:ϐ)(h:Heap)(a:Addr)(S:Int->Bool)(n:Nat):Prop:=∃o b c t,h.get? a=Φ o/\o.ExactSet/\o.data=.set b c t/\ElemsOf (intKind prog w) b.toList/\(∀k,S k=Γ↔∃e∈b.toList,(intKind prog w).is k e.2=Γ)/\b.size<scanBound/\t.fits b.size=Γ/\b.size=n/\TOk (!byT w) t
theorem SetD.congr(x:SetD prog w h a S n)(e:∀k,S k=S' k)(b:n=c):SetD prog w h a S' c:=by obtain⟨o,d,f,t,g,i,j,l,m,p,q,r,u⟩:=x;exact⟨o,d,f,t,g,i,j,l,λk=>by rw[<-e k];exact m k,p,q,r.trans b,u⟩
theorem SetD.at(x:SetD prog w h a S n)(k:∀o,h.get? a=Φ o->h'.get? a=Φ o):SetD prog w h' a S n:=by obtain⟨o,b,c,t,d,r⟩:=x;exact⟨o,b,c,t,k o d,r⟩
theorem ziP{h:Heap}(l:h.get? a=Φ o)(b:o.ExactSet)(hd:o.data=.set es c t)(d:ElemsOf (intKind prog w) es'.toList)(f:∀k,S' k=Γ↔∃e∈es'.toList,(intKind prog w).is k e.2=Γ)(g:es'.size<scanBound)(i:t'.fits es'.size=Γ)(m:TOk (!byT w) t'):
  (h.update a (Obj.putSet es' t')).get? a=Φ {o with data:=.set es' (c+1) t'}/\SetD prog w (h.update a (Obj.putSet es' t')) a S' es'.size:=by
 obtain⟨j,_⟩:=SetOf_store l b hd d f g i;exact⟨j,_,es',c+1,t',j,b,rfl,d,f,g,i,rfl,m⟩
theorem zsr(hS:SetD prog w s.heap a S n)(hr:n+1<scanBound)(q:∀h' b,Heap.SameBut a s.heap h'->SetD prog w h' a (λz=>S z||decide (z=k)) (if S k then n else n+1)->Q b {s with heap:=h'}):
  wpAny (model prog w) A (setAddHashed a (.int k tk) ((intKind prog w).hash k)) Q E s:=by
 have hkey:(intKind prog w).is k (.int k tk)=Γ:=intKind_is _ _ _ _;obtain⟨o,es,ep,t,ho,hex,hd,hel,hmem,hb,hf,hn,ht⟩:=hS;unfold setAddHashed setAddHashedIn;refine ϖ (Θ (ϟ ho hd hf ?_));dsimp only;rw[byScan_of (knd:=intKind prog w) rfl hb hel];simp only[↓reduceIte];unfold setAddByScan;refine Θ (Θ (Ϭ (Θ (wpAny_setScan_of hkey ho hd hf hel ?_))));cases hi:List.findIdx? (λe=>(intKind prog w).is k e.2) es.toList with
 |some j=>obtain⟨hj,hp,_⟩:=List.findIdx?_eq_some_iff_getElem.mp hi;have hk:S k=Γ:=(hmem k).mpr ⟨_,ϕ hj,hp⟩;have:=q s.heap Δ (Heap.SameBut.refl _ _) ⟨o,es,ep,t,ho,hex,hd,hel,λz=>?_,hb,hf,by rw[hk];exact hn,ht⟩;exact Ξ (Ξ this);rw[<-hmem z];by_cases c:z=k;subst c;simp[hk];simp[c]| none=>
  have hk:S k=Δ:=by cases c:S k with|false=>rfl| true=>obtain⟨e,he,hp⟩:=(hmem k).mp c;have:=List.findIdx?_eq_none_iff.mp hi e he;rw[hp]at this;cases this
  have p1:=layNew_perm t es ((intKind prog w).hash k) (.int k tk);have p2:=layNew_fits t es ((intKind prog w).hash k) (.int k tk);have p3:=zqG ht es ((intKind prog w).hash k) (.int k tk);dsimp only;generalize layNew t es ((intKind prog w).hash k) (.int k tk)=L at p1 p2 p3⊢;obtain⟨e1,t1,wd,gv⟩:=L;dsimp only at p1 p2 p3⊢;rw[Array.toList_push]at p1;have m1:ElemsOf (intKind prog w) e1.toList:=(hel.push hkey rfl).perm p1;have m2:∀z,(S z||decide (z=k))=Γ↔∃e∈e1.toList,(intKind prog w).is z e.2=Γ:=mem_push_iff hkey hmem p1;have sz:e1.size=n+1:=by rw[<-length_toList,p1.length_eq,length_append,length_toList,hn];rfl
  have m3:e1.size<scanBound:=by rw[sz];exact hr
  have gw:∀(b:Bool){s₁:Η}{Q':Unit->Η->Prop},Q' () s₁->wpAny (model prog w) A (match b with|true=>rule "set.scan.the-table-gave-way"|false=>pure ()) Q' E s₁:=λb s₁ Q' hq=>by cases b<;>first|exact Ξ hq|exact Ϭ hq
  refine Θ (gw _ ?_);have fin:∀h' b,Heap.SameBut a s.heap h'->SetD prog w h' a (λz=>S z||decide (z=k)) e1.size->Q b {s with heap:=h'}:=λh' b hs hD=>q h' b hs (by rw[hk];rw[sz]at hD;exact hD);have tail:∀t2:SetTable,t2.fits e1.size=Γ->TOk (!byT w) t2->wpAny (model prog w) A (do
    storeSet a e1 t2
    if(!wd&&t2.tooFull)=Γ then do
        (match (relayAll t2 e1 (SetTable.grown e1.size)).2.2 with|true=>rule "set.scan.the-table-gave-way"|false=>pure ())
        storeSet a (relayAll t2 e1 (SetTable.grown e1.size)).1 (relayAll t2 e1 (SetTable.grown e1.size)).2.1
        pure (Φ Γ)
     else pure (Φ Γ)) (λr s'=>wpAny (model prog w) A (match r with|some added=>pure added|none=>setAddHashedIn a (.int k tk) ((intKind prog w).hash k) 99999) Q E s') E s:=by
   intro t2 f2 o2;obtain⟨k1,k2⟩:=ziP (prog:=prog) (w:=w) ho hex hd m1 m2 m3 f2 o2;refine Θ (wpAny_storeSet_of ho hd ?_ (fits_of_scanBound m3));have sb:=Heap.SameBut.update s.heap a (Obj.putSet e1 t2);split;have r1:=relayAll_perm t2 e1 (SetTable.grown e1.size);have r2:=relayAll_fits t2 e1 (SetTable.grown e1.size);have r3:=zk9 o2 e1 (SetTable.grown e1.size);generalize relayAll t2 e1 (SetTable.grown e1.size)=L2 at r1 r2 r3⊢;obtain⟨e2,t3,g2⟩:=L2;dsimp only at r1 r2 r3⊢;have z2:e2.size=e1.size:=by rw[<-length_toList,r1.length_eq,length_toList]
   refine Θ (gw _ (Θ (wpAny_storeSet_of k1 rfl ?_ (fits_of_scanBound (by rw[z2];exact m3)))));obtain⟨_,k4⟩:=ziP (prog:=prog) (w:=w) k1 hex rfl (m1.perm r1) (λz=>(m2 z).trans ⟨λv=>(by obtain⟨e,he,qq⟩:=v;exact ⟨e,r1.mem_iff.mpr he,qq⟩),λy=>(by obtain⟨e,he,qq⟩:=y;exact ⟨e,r1.mem_iff.mp he,qq⟩)⟩) (by rw[z2];exact m3) r2 r3;rw[z2]at k4;exact Ξ (Ξ (fin _ _ (sb.trans (Heap.SameBut.update _ a _)) k4));exact Ξ (Ξ (fin _ _ sb k2))
  split;refine Θ ?_;rw[hashByValue_scannable 8 (show(Λ.int k tk).scannable=Γ from rfl)];exact Ξ (tail _ p2 p3);exact Θ (Ξ (tail _ p2 p3))
end
end R
section
set_option maxHeartbeats 8000000
namespace R
open PySem PySem.Spec PyProof.Rows
section
variable{prog:Τ}{w:ϐ}{A:ϑ}{R:Result->Η->Prop}{I:Addr}{fp wr:List Addr}{G:Array GenState->Array GenState->Prop}{n:Nat}{P:Nat->Λ->Prop}{St:Nat->Η->Prop}
theorem zqx(W:WalksS prog w A.in1 I fp wr G n P St)(a)(ha:a∉fp)(val)(hv:∀i v,P i v->∃t,v=.int (val i) t)(hb:n+1<scanBound):
  ∀(m i:Nat)(s:Η),n-i=m->i<=n->St i s->SetD prog w s.heap a (λz=>(firstMet val i).any (·==z)) (firstMet val i).length->
   (∀s',Moved (a::wr) G s s'->SetD prog w s'.heap a (λz=>(firstMet val n).any (·==z)) (firstMet val n).length->R (.ok (.ret .none)) s')->
   codeAny (model prog w) A (.builtin "set.update.loop" ⟨[.ref a,.ref I],[]⟩) R s:=by
 have aw:a∉wr:=λz=>ha (W.sub _ z);have up:∀b∈wr,b∈a::wr:=λb z=>Ν _ z;intro m;induction m with
 |zero=>
  intro i s hm hi st hS fin;obtain rfl:i=n:=by lia
  refine Ϝ F.entry_set_update_loop ?_;rw[ϣ F.plain_set_update_loop _];show wpAny _ A.in1 (pyNext (.ref I)>>=_) _ _ s;refine Θ (W.done s _ _ st λs' mv=>?_);show wpAny _ A.in1 (ret Λ.none) _ _ s';exact Ξ (fin s' (mv.mono up) (hS.at λo e=>mv.heap a o aw e))
 |succ m ih=>
  intro i s hm hi st hS fin;refine Ϝ F.entry_set_update_loop ?_;rw[ϣ F.plain_set_update_loop _];show wpAny _ A.in1 (pyNext (.ref I)>>=_) _ _ s;refine Θ (W.item i s _ _ (by lia) st λv s' hP st' mv=>?_);obtain⟨t,rfl⟩:=hv i v hP;have hS':=hS.at (h':=s'.heap) λo e=>mv.heap a o aw e;show wpAny _ A.in1 (holding [Λ.int (val i) t] (setAdd a (.int (val i) t))>>=_) _ _ s';refine Θ (ϖ ?_);unfold setAdd;refine ϖ (Θ ((intKind prog w).pyHash (k:=val i) (intKind_is _ _ _ _) ?_));have room:(firstMet val i).length+1<scanBound:=by have:=firstMet_length_le val i;lia
  refine zsr (s:={s' with toks:=s'.toks+1}) hS' room λh' b sb hS2=>?_;have hS3:SetD prog w h' a (λz=>(firstMet val (i+1)).any (·==z)) (firstMet val (i+1)).length:=hS2.congr (λz=>by rw[firstMet_succ,step_any]) (by rw[firstMet_succ,step_length]);refine Ξ ⟨plainId_quiet F.plain_set_update_loop _,ih (i+1) _ (by lia) (by lia) (W.frame _ s' _ _ st' (le_succ _) λb hb o e=>?_) hS3 λs2 mv2 hS4=>?_⟩;rw[sb.2 b λz:b=a=>ha (z▸hb)];exact e;refine fin s2 (Moved.trans W.gtrans ((mv.mono up).then_heap (le_succ _) λb o hb e=>?_) mv2) hS4;rw[sb.2 b λz:b=a=>hb (by rw[z];exact Ρ)];exact e
end
section
variable{prog:Τ}{w:ϐ}{A:ϑ}{E:Λ->Η->Prop}{s:Η}
noncomputable abbrev sD0(b:Bool):Obj:={cls:=.type "set",dict:=Ψ,data:=.set #[] 0 (.fresh 0 0 b)}
theorem zqm(a)(h:Q₁ (.ref s.heap.objs.size) {s with heap:=s.heap.push (sD0 (!byT w))}):codeAny (model prog w) A (.call (.builtin "set.__new__") ⟨[.type "set",a],[]⟩) (wants Q₁ E) s:=by
 refine codeAny_of_tree ?_;show wpAny _ A.in1 (do checkBuiltinCall "set.__new__" ⟨[.type "set",a],[]⟩;again (.builtin "set.__new__" ⟨[.type "set",a],[]⟩)) _ _ s;refine Θ (wpAny_of_eq (F.newCall_set_1 a) (Ξ ⟨plainId_quiet F.plain_set_new _,Ϝ F.entry_set_new ?_⟩));rw[ϣ F.plain_set_new _];unfold Builtin.«set.__new__» Builtin.Frozenset.newClass;have q:=sub_set_self;obtain⟨b,c,d,e,f⟩:=s;dsimp only
 wp_walk
 refine wpAny_askSetting (Ξ ?_);dsimp only;simp only[newObj];exact Θ (wpAny_alloc (Ξ (Ξ h)))
theorem ziW(hc:A.handled=Ψ)(hl:s.heap.IsList l its)(hi:IntsAre its.toList ms)(hb:its.size+1<scanBound)(fin:∀(g:Heap)(tk:Nat),SetD prog w g s.heap.objs.size (λz=>(firstMet (λi=>ms.getD i 0) its.size).any (·==z)) (firstMet (λi=>ms.getD i 0) its.size).length->
   (∀b o,b<s.heap.objs.size->s.heap.get? b=Φ o->g.get? b=Φ o)->Q (.ref s.heap.objs.size) {s with heap:=g,toks:=tk}):wpAny (model prog w) A (call (.type "set") [.ref l]) Q E s:=by
 obtain⟨mc,mt,hmro⟩:=F.called_set.mro;have c1:=F.called_set.made;have c2:=F.called_set.sub;refine wpAny_call (codeAny_of_tree ?_);show wpAny _ _ (callAny (.type "set") _) _ _ _;refine Ξ ⟨Code.quiet_builtin _ (by decide +kernel),Ϝ F.entry_type_call ?_⟩;rw[ϑ.under_plain (weight_type_call_type "set" [.ref l] []) rfl];have c3:=F.called_set.notType;have c4:=F.called_set.canCreate;have c5:=F.typeCall_set_1 (.ref l)
 repeat (any_goals (first|assumption|wp_step))
 refine ϩ (zqm (.ref l) (E:=E) (Q₁:=λo z=>o=.ref s.heap.objs.size/\z={s with heap:=s.heap.push (sD0 (!byT w))}) ⟨rfl,rfl⟩) λr z hr=>?_;cases r with
 |error e=>exact hr| ok fl=>
  cases fl with
  |ret o=>
   obtain⟨rfl,rfl⟩:=hr;have g0:(s.heap.push (sD0 (!byT w))).get? s.heap.objs.size=Φ (sD0 (!byT w)):=Ι _ rfl;have g1:Η.TypeIs {s with heap:=s.heap.push (sD0 (!byT w))} (.ref s.heap.objs.size) "set":=⟨_,g0,rfl⟩;have c6:=F.called_set.init.lookup;have c7:=F.called_set.init.bind (.ref s.heap.objs.size)
   repeat (any_goals (first|assumption|wp_step))
   refine ϩ (codeAny_call_builtin (R:=wants (λr z=>r=.none/\∃g tk,z={s with heap:=g,toks:=tk}/\
    SetD prog w g s.heap.objs.size (λz=>(firstMet (λi=>ms.getD i 0) its.size).any (·==z)) (firstMet (λi=>ms.getD i 0) its.size).length/\
    (∀b o,b<s.heap.objs.size->s.heap.get? b=Φ o->g.get? b=Φ o)) E) F.called_set.init.plain F.entry_set_init (check_set_init_1 g1 ?_)) λr2 z2 hr2=>?_
   . obtain⟨⟨oc,od,oda,osl⟩,ho,hcl,nl,hda⟩:=id hl;simp only at hcl hda;subst hcl hda;have ho':(s.heap.push (sD0 (!byT w))).get? l=Φ {cls:=.type "list",dict:=od,data:=.seq its nl,slots:=osl}:=Ω _ ho;have d1:=F.sub_list_set;have d2:=F.sub_list_frozenset;have d3:(Λ.type "list" == Λ.type "dict")=Δ:=by decide
     have ht1:(s.heap.push (sD0 (!byT w))).IsList l its:=⟨_,ho',rfl,nl,rfl⟩;unfold Builtin.«set.__init__» noKeywords Builtin.Frozenset.updateFrom;generalize hPI:pyIter=PI
     wp_walk
     subst hPI;refine wpAny_pyIter_list ht1 ?_;refine Θ (wpAny_runValue ?_);have tl:l<s.heap.objs.size:=Κ ho;have tn:l≠(s.heap.push (sD0 (!byT w))).objs.size:=by rw[ϒ];exact ne_of_lt (ϝ tl)
     have sn:s.heap.objs.size∉[(s.heap.push (sD0 (!byT w))).objs.size,l]:=by rw[ϒ];simp only[mem_cons,not_mem_nil,or_false,not_or];exact⟨ne_of_lt (ϧ _),ne_of_gt tl⟩
     refine zqx ((Walks.list (by simp[hc]) _ l tn its).toS) s.heap.objs.size sn (λi=>ms.getD i 0) (λi v hv=>IntsAre.int_at hi i v (by rw[Χ];exact hv)) hb (its.size-0) 0 _ (by lia) (zero_le _)
      ⟨⟨_,Ι _ rfl,rfl,rfl⟩,ht1.push _⟩ ?start ?last
     case start=>exact⟨_,#[],0,_,Ω _ g0,⟨rfl,rfl,rfl⟩,rfl,λe he=>by simp at he,λk=>by simp[firstMet],by decide,by rfl,rfl,rfl,Pairwise.nil⟩
     case last=>rintro⟨g,gg,dd,tk,oo⟩ mv hS;obtain rfl:gg=s.gens:=mv.gens;obtain rfl:dd=s.drawn:=mv.drawn;obtain rfl:oo=s.os:=mv.os;show wpAny _ _ _ _ _ _;refine Ξ ?_;show wpAny _ _ (ret Λ.none) _ _ _;refine Ξ ⟨rfl,g,tk,rfl,hS,λb o hb e=>mv.heap b o ?_ (Ω _ (Ω _ e))⟩;rw[ϒ];simp only[mem_cons,not_mem_nil,or_false,not_or];exact⟨ne_of_lt hb,ne_of_lt (ϝ hb)⟩
   cases r2 with
   |error e=>exact hr2| ok f2=>
    cases f2 with
    |ret r=>
     obtain⟨rfl,g,tk,rfl,hS,hk⟩:=hr2
     repeat (any_goals (first|assumption|wp_step))
     exact fin _ _ hS hk
    |_=>exact hr2.elim
  |_=>exact hr.elim
end
end R
end
namespace R
open PySem PySem.Spec PyProof.Rows
theorem zfR:entryFor table "set.__iter__"=Φ Builtin.«frozenset.__iter__»:=entryFor_alias (id':="frozenset.__iter__") (by kernel_rfl) rfl (by decide +kernel) (by kernel_rfl)
theorem slot_sit_next:Slot "set_iterator" "__next__" "set_iterator.__next__":=.of (owner:="set_iterator") (n:="__next__") (by rw[typeLookup_type,builtinLookup_eq_fast];kernel_rfl) (by decide +kernel) (by decide +kernel) (by decide +kernel) (by first|exact .inl (by decide +kernel)|exact .inr (by decide +kernel)) (by rw[isSubtype_type];kernel_rfl)
theorem zbM:entryFor table "set_iterator.__next__"=Φ Builtin.«set_iterator.__next__»:=entryFor_of_fast (by kernel_rfl)
theorem zbw(a):argsOk "set_iterator.__next__" ⟨[a],[]⟩:=by unfold argsOk;kernel_rfl
theorem zaD:Slot "set_iterator" "__iter__" "set_iterator.__iter__":=.of (owner:="set_iterator") (n:="__iter__") (by rw[typeLookup_type,builtinLookup_eq_fast];kernel_rfl) (by decide +kernel) (by decide +kernel) (by decide +kernel) (by first|exact .inl (by decide +kernel)|exact .inr (by decide +kernel)) (by rw[isSubtype_type];kernel_rfl)
theorem zbN:entryFor table "set_iterator.__iter__"=Φ Builtin.«dict_keyiterator.__iter__»:=entryFor_alias (id':="dict_keyiterator.__iter__") (by kernel_rfl) rfl (by decide +kernel) (by kernel_rfl)
theorem zbx(a):argsOk "set_iterator.__iter__" ⟨[a],[]⟩:=by unfold argsOk;kernel_rfl
section
variable{prog:Τ}{w:ϐ}{A:ϑ}{E:Λ->Η->Prop}{s:Η}{a j:Addr}{o:Obj}{es:Array (Int×Λ)}{ep:Nat}{t:SetTable}
theorem ziq(c:n≠0)(h:∀i d',i<n->wpAny M A (k i) Q E {s with drawn:=d'}):wpAny M A (.choose d n k) Q E s:=λe p b=>by rw[Sem.wp_choose];exact⟨c,h _ _ (Nat.mod_lt _ (Nat.pos_of_ne_zero c)) e p b⟩
theorem erase_perm{b:Type}:∀(l:List b)(j:Nat)(h:j<l.length),(l[j]::l.eraseIdx j).Perm l
 |x::l,0,h=>List.Perm.refl _| x::l,j+1,h=>by
  have c:j<l.length:=by simpa using h
  have d:=erase_perm l j c;exact(List.Perm.swap _ _ _).trans (d.cons x)
theorem zhv:∀(n:Nat)(xs:List d){s:Η}{Q:List d->Η->Prop},xs.length=n->(∀ys d',ys.Perm xs->Q ys {s with drawn:=d'})->wpAny (model prog w) A (drawOrder n xs) Q E s
 |0,xs,s,Q,b,h=>by cases List.length_eq_zero_iff.mp b;exact Ξ (h [] s.drawn (List.Perm.refl _))|n+1,[],s,Q,b,h=>by cases b| n+1,x::xs,s,Q,b,h=>by refine Θ (ziq (by simp) λi d' c=>Ξ ?_);rw[Ε c];refine Θ (zhv n _ (by rw[List.length_eraseIdx_of_lt c];simp at b⊢;exact b) λys e f=>Ξ (h _ e ?_));exact(f.cons _).trans (erase_perm _ _ c)
theorem zjj(f):∀(n k:Nat)(left:List d)(out:Array d),left.length=n->(pickOrder.go f n k left out).toList.Perm (out.toList++left)
 |0,k,left,out,c=>by cases List.length_eq_zero_iff.mp c;unfold pickOrder.go;rw[append_nil]| n+1,k,left,out,c=>by unfold pickOrder.go;have b:f k%left.length<left.length:=Nat.mod_lt _ (by lia);rw[Ε b];refine(zjj f n (k+1) _ _ (by rw[List.length_eraseIdx_of_lt b];lia)).trans ?_;rw[Array.toList_push,append_assoc];exact List.Perm.append_left _ (erase_perm _ _ b)
theorem zji(f)(xs:Array b):(pickOrder f xs).toList.Perm xs.toList:=by have:=zjj f xs.size 0 xs.toList #[] (by simp);simpa[pickOrder]using this
def SIt(h:Heap)(j a:Addr)(f:Λ)(i n ep:Nat):Prop:=h.get? j=Φ {cls:=.type "set_iterator",dict:=Ψ,data:=.fields #[f,rawInt i,.ref a,rawInt n,rawInt ep],slots:=#[]}
theorem zgV{f f' i:Nat}(b:SIt s.heap j a (rawInt f) i es.size ep)(e:s.heap.get? a=Φ o)(hd:o.data=.set es ep t)(g:t.fits es.size=Γ)(h:∀(A:ϑ)(E:Λ->Η->Prop)(c:Option (Λ×Nat)->Η->Prop),c (Φ (x,f')) s->wpAny (model prog w) A (setNext a f i ep) c E s)(q:∀h',SIt h' j a (rawInt f') (i+1) es.size ep->Heap.SameBut j s.heap h'->Q (Φ x) {s with heap:=h'}):wpAny (model prog w) A (pyNext (.ref j)) Q E s:=by
 have d:s.TypeIs (.ref j) "set_iterator":=⟨_,b,rfl⟩;unfold pyNext;refine Θ (wpAny_attempt (Ϛ (name:=Str.ofString "__next__") d slot_sit_next (ύ slot_sit_next d zbM ?_ (zbw _))));unfold Builtin.«set_iterator.__next__»;refine Θ (m:=slotArgs "__next__" 0 _) (Ξ ?_);refine Θ (wpAny_fieldsOf b rfl ?_);show wpAny _ _ (setEntries a>>=_) _ _ s;refine Θ (wpAny_setEntries_of e hd g ?_);rw[if_neg (by simp)];refine Θ (h _ _ _ ?_);refine Θ (wpAny_setField_rec b (by simp) λk l n=>?_);refine Θ (wpAny_setField_rec (s:={s with heap:=k}) l (by simp) λp r u=>?_);exact Ξ ⟨_,rfl,Ξ (q p r (n.trans u))⟩
theorem ziT(g:A.handled=Ψ)(h:SIt s.heap j a f i es.size ep)(r:s.heap.get? a=Φ o)(hd:o.data=.set es ep t)(u:t.fits es.size=Γ)(l:∀(A:ϑ)(E:Λ->Η->Prop)(m:Fin->Η->Prop),A.handled=Ψ->(∀h' e,Heap.ExtBut j s.heap h'->(∃c,h'.get? e=Φ c/\c.cls=.type "StopIteration")->E (.ref e) {s with heap:=h'})->wpAny (model prog w) A (Builtin.«set_iterator.__next__» ⟨[.ref j],[]⟩) m E s)(q:∀h',Heap.ExtBut j s.heap h'->Q Ψ {s with heap:=h'}):wpAny (model prog w) A (pyNext (.ref j)) Q E s:=by
 have d:s.TypeIs (.ref j) "set_iterator":=⟨_,h,rfl⟩;refine Θ (wpAny_attempt (Ϛ d slot_sit_next (ύ slot_sit_next d zbM ?_ (zbw _))));refine l _ _ _ g λh' e k z=>?_;obtain⟨c,n,p⟩:=z;exact Θ (ϭ (b:=Γ) (T:="StopIteration") ⟨c,n,p⟩ isSubtype_stop (Ξ (q h' k)))
theorem zd9(c:A.handled=Ψ)(d:Heap.ExtBut j s.heap s'.heap)(es':s'={s with heap:=s'.heap})(h:∀h' e,Heap.ExtBut j s.heap h'->(∃b,h'.get? e=Φ b/\b.cls=.type "StopIteration")->E (.ref e) {s with heap:=h'}):
  wpAny (model prog w) A (do raiseNew (<-newExc (.type "StopIteration") []):Sem Fin) f E s':=by
 rw[es'];refine Θ ?_;refine Θ (ό ?_ (by size_fits));refine Θ (wpAny_of_eq (by first|rfl|(rfl)) (ό ?_ (by size_fits)));refine Θ (wpAny_handled ?_);rw[c];exact Θ (Ξ (wpAny_throw (h _ _ ((d.push _).push _) ⟨_,Ι _ rfl,rfl⟩)))
theorem zgW{f i:Nat}(g:A.handled=Ψ)(b:SIt s.heap j a (rawInt f) i es.size ep)(d:s.heap.get? a=Φ o)(hd:o.data=.set es ep t)(e:t.fits es.size=Γ)(h:∀(A:ϑ)(E:Λ->Η->Prop)(c:Option (Λ×Nat)->Η->Prop),c Ψ s->wpAny (model prog w) A (setNext a f i ep) c E s)(q:∀h',Heap.ExtBut j s.heap h'->Q Ψ {s with heap:=h'}):wpAny (model prog w) A (pyNext (.ref j)) Q E s:=by
 refine ziT g b d hd e (λA E c k l=>?_) q;refine Θ (Ξ ?_);refine Θ (wpAny_fieldsOf b rfl ?_);refine Θ (wpAny_setEntries_of d hd e ?_);rw[if_neg (by simp)];refine Θ (h _ _ _ ?_);exact Θ (wpAny_setField_rec b (by simp) λm p n=>(zd9 (s:=s) (s':={s with heap:=m}) k n.extBut rfl l))
def PTg(h:Heap)(b:Addr)(c:List Nat):Prop:=h.get? b=Φ {cls:=.type "tuple",data:=.seq (c.map λ(p:Nat)=>rawInt p).toArray}
theorem ziS(b:SIt s.heap j a (.ref d) i es.size ep)(e:s.heap.get? a=Φ o)(hd:o.data=.set es ep t)(f:t.fits es.size=Γ)(h:PTg s.heap d c)(k:c[i]?=Φ p)(l:es[p]?=Φ (v,x))(q:∀h',SIt h' j a (.ref d) (i+1) es.size ep->Heap.SameBut j s.heap h'->Q (Φ x) {s with heap:=h'}):wpAny (model prog w) A (pyNext (.ref j)) Q E s:=by
 have g:s.TypeIs (.ref j) "set_iterator":=⟨_,b,rfl⟩;refine Θ (wpAny_attempt (Ϛ g slot_sit_next (ύ slot_sit_next g zbM ?_ (zbw _))));refine Θ (Ξ ?_);refine Θ (wpAny_fieldsOf b rfl ?_);refine Θ (wpAny_setEntries_of e hd f ?_);rw[if_neg (by simp)];refine Θ (ϥ h rfl ?_);have m:(c.map λ(p:Nat)=>rawInt p).toArray[i]?=Φ (rawInt p):=by simp[k]
 show wpAny _ _ (match (c.map λ(p:Nat)=>rawInt p).toArray[i]? with|some (.int place _)=>_|some _=>_|none=>_) _ _ s;rw[m];show wpAny _ _ (setNextDrawn a p ep>>=_) _ _ s;refine Θ (Θ (ϟ e hd f ?_));dsimp only;rw[if_neg (by simp),l];refine Ξ ?_;exact Θ (wpAny_setField_rec b (by simp) λn r u=>(Ξ ⟨_,rfl,Ξ (q n r u)⟩))
theorem zkS(f:A.handled=Ψ)(b:SIt s.heap j a (.ref g) i es.size ep)(d:s.heap.get? a=Φ o)(hd:o.data=.set es ep t)(e:t.fits es.size=Γ)(h:PTg s.heap g c)(k:c.length<=i)(q:∀h',Heap.ExtBut j s.heap h'->Q Ψ {s with heap:=h'}):wpAny (model prog w) A (pyNext (.ref j)) Q E s:=by
 refine ziT f b d hd e (λA E z l m=>?_) q;refine Θ (Ξ ?_);refine Θ (wpAny_fieldsOf b rfl ?_);refine Θ (wpAny_setEntries_of d hd e ?_);rw[if_neg (by simp)];refine Θ (ϥ h rfl ?_);have n:(c.map λ(p:Nat)=>rawInt p).toArray[i]?=Ψ:=by simp;exact k
 show wpAny _ _ (match (c.map λ(p:Nat)=>rawInt p).toArray[i]? with|some (.int place _)=>_|some _=>_|none=>_) _ _ s;rw[n];refine Θ (wpAny_setField_rec b (by simp) λr u v=>?_);exact Θ (wpAny_setField_rec (s:={s with heap:=r}) u (by simp) λx B y=>(zd9 (s:=s) (s':={s with heap:=x}) l (v.trans y).extBut rfl m))
theorem zmo(b:byT w=Γ)(c:s.heap.get? a=Φ o)(hd:o.data=.set es ep t)(d:t.fits es.size=Γ)(q:Q ((pickOrder (w.params.setOrder a ep) es)[i]?.map λe=>(e.2,f)) s):wpAny (model prog w) A (setNext a f i ep) Q E s:=by
 refine Θ (ϟ c hd d ?_);refine Θ (Θ (wpAny_askSetting (Ξ ?_)));rw[if_pos (show(model prog w).w.params.followText "set-order"=Γ from b)];rw[if_neg (by simp)];refine Θ (Θ (ϟ c hd d ?_));refine Θ (Θ (wpAny_askSetting (Ξ ?_)));rw[if_pos (show(model prog w).w.params.followText "set-order"=Γ from b)];exact Θ (wpAny_askSetting (Ξ (Ξ q)))
theorem zmp(hb:byT w=Δ)(ho:s.heap.get? a=Φ o)(hd:o.data=.set es ep t)(hf:t.fits es.size=Γ)(hl:t.led=Γ)(hp:(!t.plain&&decide (es.size>1))=Δ)(q:Q (match es[SetTable.below t.place f]?,t.place[SetTable.below t.place f]? with|some (_,x),Φ j=>Φ (x,j+1)|_,_=>Ψ) s):wpAny (model prog w) A (setNext a f i ep) Q E s:=by
 refine Θ (ϟ ho hd hf ?_);refine Θ (Θ (wpAny_askSetting (Ξ ?_)));rw[if_neg (show ¬(model prog w).w.params.followText "set-order"=Γ by rw[show(model prog w).w.params.followText "set-order"=byT w from rfl,hb];decide)];show wpAny _ _ (if(!t.plain&&decide (es.size>1))=Γ then _ else _) _ _ s;rw[if_neg (by rw[hp];decide)];show wpAny _ _ ((if(!t.led&&!es.isEmpty)=Γ then unsupported "set:maker-not-led" else pure ())>>=_) _ _ s;rw[if_neg (by rw[hl];simp)];exact Θ (Ξ (Ξ q))
abbrev YP(b:List Λ):Nat->Λ->Prop:=λi v=>b[i]?=Φ v
theorem zoL(hh:A.handled=Ψ)(hne:a≠j)(hb:byT w=Γ)(hd:o.data=.set es ep t)(hf:t.fits es.size=Γ) :
  Walks prog w A j [j,a] [j] ((pickOrder (w.params.setOrder a ep) es).toList.map (·.2)).length (YP ((pickOrder (w.params.setOrder a ep) es).toList.map (·.2))) (λi h=>SIt h j a (rawInt 0) i es.size ep/\h.get? a=Φ o) where
 sub:=λb hb=>by simp at hb;simp[hb]
 frame:=λ_ _ _ st hk=>⟨hk j (by simp) _ st.1,hk a (by simp) _ st.2⟩
 item:=λi s Q E hi st hQ=>by
  have hi':i<(pickOrder (w.params.setOrder a ep) es).size:=by simpa using hi
  refine zgV st.1 st.2 hd hf (λA E Q' q=>zmo hb st.2 hd hf (by rw[ώ hi'];exact q)) λh' g sb=>?_;exact hQ _ h' s.toks (by simp[YP,hi']) ⟨g,sb.extBut a _ hne st.2⟩ λb o hb e=>sb.extBut b o (λz=>hb (by simp[z])) e
 done:=λs Q E st hQ=>by
  have hi':(pickOrder (w.params.setOrder a ep) es).size<=((pickOrder (w.params.setOrder a ep) es).toList.map (·.2)).length:=by simp
  exact zgW hh st.1 st.2 hd hf (λA E Q' q=>zmo hb st.2 hd hf (by rw[Array.getElem?_eq_none hi'];exact q)) λh' k=>hQ h' s.toks λb o hb e=>k b o (λz=>hb (by simp[z])) e
 self:=λi s Q E st hQ=>by have ty:s.TypeIs (.ref j) "set_iterator":=⟨_,st.1,rfl⟩;refine wpAny_pyIter_slot ty zaD (ύ zaD ty zbN ?_ (zbx _));exact Ξ ⟨_,rfl,"set_iterator",_,ty,slot_sit_next.lookup,hQ⟩
noncomputable def zgU(t:SetTable):Nat->Nat
 |0=>0|i+1=>t.place.getD i 0+1
theorem zeb(h:Rise t.place)(c:i<=t.place.size):SetTable.below t.place (zgU t i)=i:=by
 cases i with
 |zero=>exact zex h| succ i=>
  have b:i<t.place.size:=by lia
  show SetTable.below t.place (t.place.getD i 0+1)=_;rw[show t.place.getD i 0=t.place[i] by simp[b]];exact zey h b
theorem zoM(hh:A.handled=Ψ)(hne:a≠j)(hb:byT w=Δ)(hd:o.data=.set es ep t)(hf:t.fits es.size=Γ)(ht:TOk (!byT w) t)(hp:(!t.plain&&decide (es.size>1))=Δ) :
  Walks prog w A j [j,a] [j] (es.toList.map (·.2)).length (YP (es.toList.map (·.2))) (λi h=>i<=es.size/\SIt h j a (rawInt (zgU t i)) i es.size ep/\h.get? a=Φ o) where
 sub:=λb hb=>by simp at hb;simp[hb]
 frame:=λ_ _ _ st hk=>⟨st.1,hk j (by simp) _ st.2.1,hk a (by simp) _ st.2.2⟩
 item:=λi s Q E hi st hQ=>by
  have hi':i<es.size:=by simpa using hi
  have hz:t.place.size=es.size:=by simp only[SetTable.fits,Α,beq_iff_eq]at hf;exact hf.1
  have hl:t.led=Γ:=by rw[ht.led,hb];rfl
  have hpl:t.place[i]?=Φ t.place[i]:=ώ (by omega);refine zgV (x:=es[i].2) (f':=zgU t (i+1)) st.2.1 st.2.2 hd hf (λA E Q' q=>zmp hb st.2.2 hd hf hl hp ?_) λh' g sb=>?_;rw[zeb ht.rise (by omega),ώ hi',hpl];have:zgU t (i+1)=t.place[i]+1:=by show t.place.getD i 0+1=_;simp[show i<t.place.size by omega]
  rw[this]at q;exact q;exact hQ _ h' s.toks (by simp[YP,hi']) ⟨hi',g,sb.extBut a _ hne st.2.2⟩ λb o hb e=>sb.extBut b o (λz=>hb (by simp[z])) e
 done:=λs Q E st hQ=>by
  have hz:t.place.size=es.size:=by simp only[SetTable.fits,Α,beq_iff_eq]at hf;exact hf.1
  have hl:t.led=Γ:=by rw[ht.led,hb];rfl
  have hn:(es.toList.map (·.2)).length=es.size:=by simp
  rw[hn]at st;refine zgW hh st.2.1 st.2.2 hd hf (λA E Q' q=>zmp hb st.2.2 hd hf hl hp ?_) λh' k=>hQ h' s.toks λb o hb e=>k b o (λz=>hb (by simp[z])) e;rw[zeb ht.rise (by omega),Array.getElem?_eq_none (le_refl _)];exact q
 self:=λi s Q E st hQ=>by have ty:s.TypeIs (.ref j) "set_iterator":=⟨_,st.2.1,rfl⟩;refine wpAny_pyIter_slot ty zaD (ύ zaD ty zbN ?_ (zbx _));exact Ξ ⟨_,rfl,"set_iterator",_,ty,slot_sit_next.lookup,hQ⟩
noncomputable def zgu(es:Array (Int×Λ))(b:List Nat):List Λ:=b.map λp=>(es.getD p (0,.none)).2
theorem zoN{tp:Addr}{ps:List Nat}(hh:A.handled=Ψ)(hne:a≠j)(hnt:tp≠j)(hd:o.data=.set es ep t)(hf:t.fits es.size=Γ)(hp:∀p∈ps,p<es.size) :
  Walks prog w A j [j,a,tp] [j] (zgu es ps).length (YP (zgu es ps)) (λi h=>SIt h j a (.ref tp) i es.size ep/\h.get? a=Φ o/\PTg h tp ps) where
 sub:=λb hb=>by simp at hb;simp[hb]
 frame:=λ_ _ _ st hk=>⟨hk j (by simp) _ st.1,hk a (by simp) _ st.2.1,hk tp (by simp) _ st.2.2⟩
 item:=λi s Q E hi st hQ=>by
  have hi':i<ps.length:=by simpa[zgu]using hi
  have hpi:=hp _ (ϕ hi');refine ziS st.1 st.2.1 hd hf st.2.2 (Ε hi') (ώ hpi) λh' g sb=>?_;exact hQ _ h' s.toks (by simp[YP,zgu,hi',hpi]) ⟨g,sb.extBut a _ hne st.2.1,sb.extBut tp _ hnt st.2.2⟩ λb o hb e=>sb.extBut b o (λz=>hb (by simp[z])) e
 done:=λs Q E st hQ=>zkS hh st.1 st.2.1 hd hf st.2.2 (by simp[zgu]) λh' k=>hQ h' s.toks λb o hb e=>k b o (λz=>hb (by simp[z])) e
 self:=λi s Q E st hQ=>by have ty:s.TypeIs (.ref j) "set_iterator":=⟨_,st.1,rfl⟩;refine wpAny_pyIter_slot ty zaD (ύ zaD ty zbN ?_ (zbx _));exact Ξ ⟨_,rfl,"set_iterator",_,ty,slot_sit_next.lookup,hQ⟩
theorem zll(es)(h:b.Perm (List.range es.size)):(zgu es b).Perm (es.toList.map (·.2)):=by refine(h.map _).trans (List.Perm.of_eq ?_);apply ext_getElem?;intro i;by_cases c:i<es.size;simp[c];simp[c]
end
section
variable{prog:Τ}{w:ϐ}{A:ϑ}{E:Λ->Η->Prop}{s:Η}{a:Addr}{o:Obj}{es:Array (Int×Λ)}{ep:Nat}{t:SetTable}
structure Got(prog:Τ)(w:ϐ)(h0 h':Heap)(a:Addr)(vals:List Λ)(I:Addr)(fp:List Addr)(St:Nat->Heap->Prop):Prop where
 wk:∀A:ϑ,A.handled=Ψ->Walks prog w A I fp [I] vals.length (YP vals) St
 st:St 0 h'
 old:∀b o,h0.get? b=Φ o->h'.get? b=Φ o
 new:h0.objs.size<=I
 lt:I<h'.objs.size
 fp:∀b∈fp,b=a\/(h0.objs.size<=b/\b<h'.objs.size)
theorem zkU(ho:s.heap.get? a=Φ o)(hex:o.ExactSet)(hd:o.data=.set es ep t)(hf:t.fits es.size=Γ)(ht:TOk (!byT w) t)(hz:es.size<scanBound)(q:∀(h':Heap)(d':Drawn)(I:Addr)(fp:List Addr)(St:Nat->Heap->Prop)(vals:List Λ),vals.Perm (es.toList.map (·.2))->Got prog w s.heap h' a vals I fp St->Q (.ref I) {s with heap:=h',drawn:=d'}):
  wpAny (model prog w) A (pyIter (.ref a)) Q E s:=by
 have ty:s.TypeIs (.ref a) "set":=⟨_,ho,hex.1⟩;have al:=Κ ho;refine wpAny_pyIter_slot ty F.slot_set_iter (ύ F.slot_set_iter ty zfR ?_ (F.args_set_iter_1 _));refine Θ (Ξ ?_);refine Θ (Θ (wpAny_setEntries_of ho hd hf (Ξ ?_)));refine Θ (Θ (ϟ ho hd hf ?_));refine Θ (Θ (wpAny_askSetting (Ξ (Ξ ?_))));show wpAny _ _ (if(!byT w&&(!t.plain&&decide (es.size>1)))=Γ then _ else _) _ _ s;have mk:∀(h1:Heap)(d':Drawn)(fst:Λ),(∀b o,s.heap.get? b=Φ o->h1.get? b=Φ o)->s.heap.objs.size<=h1.objs.size->
   (∀h',h'.objs.size=h1.objs.size+1->(∀b o,h1.get? b=Φ o->h'.get? b=Φ o)->SIt h' h1.objs.size a fst 0 es.size ep->∃fp St vals,vals.Perm (es.toList.map (·.2))/\Got prog w s.heap h' a vals h1.objs.size fp St)->
   wpAny (model prog w) A.in1 (do ret (<-newFields "set_iterator" [fst,rawInt 0,.ref a,rawInt es.size,rawInt (<-setEpoch a)])) (λfin s'=>∃v,fin=.done (.ret v)/\∃T id,s'.TypeIs v T/\typeLookup (.type T) "__next__"=pure (Φ id)/\Q v s') E {s with heap:=h1,drawn:=d'}:=by
  intro h1 d' fst hk hz1 hG;refine Θ (wpAny_setEpoch_of (hk _ _ ho) hd hf ?_);refine Θ (ό (Ξ ⟨_,rfl,"set_iterator",_,⟨_,Ι _ rfl,rfl⟩,slot_sit_next.lookup,?_⟩));obtain⟨fp,St,vals,hp,hG⟩:=hG (h1.push {cls:=.type "set_iterator",data:=.fields #[fst,rawInt 0,.ref a,rawInt es.size,rawInt ep]}) (ϒ ..) (λb o e=>Ω _ e) (Ι _ rfl);exact q _ d' _ fp St vals hp hG
 by_cases hb:byT w=Γ;rw[if_neg (by rw[hb];simp)];refine Θ (Ξ ?_);refine mk s.heap s.drawn (rawInt 0) (λb o e=>e) (le_refl _) λh' hsz hk hit=>⟨[s.heap.objs.size,a],_,_,(zji _ es).map _,⟨λA hA=>zoL hA (ne_of_lt al) hb hd hf,⟨hit,hk _ _ ho⟩,hk,le_refl _,by rw[hsz];exact ϧ _,λb hb=>?_⟩⟩;simp only[mem_cons,not_mem_nil,or_false]at hb;rcases hb with z|z;exact .inr ⟨le_of_eq z.symm,by rw[z,hsz];exact ϧ _⟩;exact .inl z;have hb:byT w=Δ:=by simpa using hb
 by_cases hp:(!t.plain&&decide (es.size>1))=Γ;rw[if_pos (by rw[hb,hp];rfl)];refine Θ (zhv es.size (List.range es.size) (by simp) λys d' hperm=>?_);have hys:ys.length<=sizeLine:=by rw[hperm.length_eq,length_range];exact fits_of_scanBound hz
 refine Θ (ό ?_ (by show(List.map (λ(i:Nat)=>rawInt i) ys).toArray.size<=sizeLine;simpa using hys));have hps:∀p∈ys,p<es.size:=λp hp=>mem_range.mp (hperm.mem_iff.mp hp);refine mk (s.heap.push {cls:=.type "tuple",data:=.seq (ys.map λ(i:Nat)=>rawInt i).toArray}) d' (.ref s.heap.objs.size) (λb o e=>Ω _ e) (by rw[ϒ];lia) λh' hsz hk hit=>?_;have z1:(s.heap.push {cls:=.type "tuple",data:=.seq (ys.map λ(i:Nat)=>rawInt i).toArray}).objs.size=s.heap.objs.size+1:=ϒ ..;rw[z1]at hit hsz⊢;refine⟨[s.heap.objs.size+1,a,s.heap.objs.size],_,_,zll es hperm,⟨λA hA=>zoN hA (ne_of_lt (ϝ al)) (ne_of_lt (ϧ _)) hd hf hps,⟨hit,hk _ _ (Ω _ ho),hk _ _ (Ι _ rfl)⟩,λb o e=>hk _ _ (Ω _ e),le_succ _,by rw[hsz];exact ϧ _,λb hb=>?_⟩⟩;simp only[mem_cons,not_mem_nil,or_false]at hb;rcases hb with z|z|z;exact .inr ⟨by rw[z];exact le_succ _,by rw[z,hsz];exact ϧ _⟩;exact .inl z;exact .inr ⟨le_of_eq z.symm,by rw[z,hsz];exact ϝ (ϧ _)⟩;have hp:(!t.plain&&decide (es.size>1))=Δ:=by simpa using hp
 rw[if_neg (by rw[hp];simp)];refine Θ (Ξ ?_);refine mk s.heap s.drawn (rawInt 0) (λb o e=>e) (le_refl _) λh' hsz hk hit=>⟨[s.heap.objs.size,a],_,_,List.Perm.refl _,⟨λA hA=>zoM hA (ne_of_lt al) hb hd hf ht hp,⟨zero_le _,hit,hk _ _ ho⟩,hk,le_refl _,by rw[hsz];exact ϧ _,λb hb=>?_⟩⟩;simp only[mem_cons,not_mem_nil,or_false]at hb;rcases hb with z|z;exact .inr ⟨le_of_eq z.symm,by rw[z,hsz];exact ϧ _⟩;exact .inl z
theorem zkW(e:s.TypeIs (.ref a) "set")(h:Q Δ s):wpAny (model prog w) A (Builtin.List.listLengthHint (.ref a)) Q E s:=by
 unfold Builtin.List.listLengthHint;refine Θ (Ϩ e F.slot_set_len.lookup ?_);generalize d:("set.__len__":String)=f
 wp_delta
 rw[show splitId f=Φ ("set","__len__") from by subst d;decide +kernel];subst d;refine Θ (ϭ (T:="set") (b:=Γ) e (by rw[isSubtype_type];kernel_rfl) ?_);refine wpAny_ite_split (λc=>absurd c (by decide)) (λ_=>?_);refine wpAny_ite_split (λ_=>?_) (λc=>absurd (by decide +kernel) c);refine Θ (wpAny_typeOf e ?_);exact Ξ h
theorem zhN(C:A.handled=Ψ)(x:s.heap.get? a=Φ o)(k:o.ExactSet)(hd:o.data=.set es ep t)(Q:t.fits es.size=Γ)(U:TOk (!byT w) t)(hz:es.size<scanBound)(S)(n:S≠a)(res)(p)(H:s.heap.get? S=Φ {cls:=.type "list",data:=.seq #[] p})(Y:∀h' d' tk d c,(∀b o,b≠S->s.heap.get? b=Φ o->h'.get? b=Φ o)->h'.get? S=Φ {cls:=.type "list",dict:=Ψ,data:=.seq d c,slots:=#[]}->d.toList.Perm (es.toList.map (·.2))->R (.ok (.ret res)) {s with heap:=h',drawn:=d',toks:=tk}):
  wpAny (model prog w) A.in1 (Builtin.List.listExtendWith (.ref S) (.ref a) res)
   (λfin s'=>match fin with|.done f=>R (.ok f) s'|.again J=>J.quiet=Γ/\codeAny (model prog w) A J R s') (λe s'=>R (.error e) s') s:=by
 have y:=Κ H;unfold Builtin.List.listExtendWith;refine Θ (wpAny_typeOf (T:="set") ⟨_,x,k.1⟩ ?_);rw[if_neg (by simp[Builtin.List.listSameRef,n])];refine Θ (zkU x k hd Q U hz λu d' I fp St g L G=>?_);have q:=G.old _ _ H;refine Θ (ϖ (zkW (s:={s with heap:=u,drawn:=d'}) ⟨_,G.old _ _ x,k.1⟩ ?_));rw[if_pos (by decide +kernel)];refine Θ (Ϭ (Θ ?_));show wpAny _ _ (updateSeq S (·.push .none)>>=λ_=>updateSeq S (·.pop)) _ _ _;refine Θ (wpAny_updateSeq (s:={s with heap:=u,drawn:=d'}) q rfl ?_);have h:=Heap.get?_update_self (Obj.mapSeq (·.push Λ.none)) q rfl;refine wpAny_updateSeq (hz:=by seq_fits) h rfl ?_;have l:=Heap.get?_update_self (Obj.mapSeq (·.pop)) h rfl;have M:∀b o,b≠S->u.get? b=Φ o->((u.update S (Obj.mapSeq (·.push Λ.none))).update S (Obj.mapSeq (·.pop))).get? b=Φ o:=λb o m e=>(Heap.get?_update_other _ _ (Ne.symm m)).trans ((Heap.get?_update_other _ _ (Ne.symm m)).trans e);have r:S∉fp:=λv=>by rcases G.fp S v with z|z;exact n z;exact Nat.not_lt.mpr z.1 y
 have hv:g.length<=sizeLine:=by rw[L.length_eq,length_map,length_toList];exact fits_of_scanBound hz
 refine Ξ ⟨plainId_quiet PySem.F.plain_extend_loop _,codeAny_extend_loopS (G.wk A.in1 C).toS hv S r res g.length 0 _ #[] _ rfl (zero_le _) ?_ l (ItemsOf.nil _) λs' d c N B j=>?_⟩;exact(G.wk A.in1 C).frame 0 _ _ G.st λb m o e=>M b o (λz=>r (z▸m)) e;rw[Moved.eq_with N];refine Y s'.heap d' s'.toks d c (λb o m e=>N.heap b o (λv=>?_) (M b o m (G.old _ _ e))) B ?_;simp only[mem_cons,not_mem_nil,or_false]at v;rcases v with z|z;exact m z;exact Nat.not_lt.mpr (z▸G.new) (Κ e);have:d.toList=g:=by refine ext_getElem? λi=>?_;by_cases hi:i<d.size;have O:d[i]?=Φ d[i]:=ώ hi;have e2:=j.2 i _ O;rw[Χ,O];exact e2.symm;rw[ϛ (by rw[length_toList];lia),ϛ (by have:=j.1;lia)]
 rw[this];exact L
theorem zdh(B:A.handled=Ψ)(u:s.heap.get? a=Φ o)(n:o.ExactSet)(hd:o.data=.set es ep t)(C:t.fits es.size=Γ)(G:TOk (!byT w) t)(hz:es.size<scanBound)(h:∀(h':Heap)(d':Drawn)(tk:Nat)(i:List Λ),(∀b o,s.heap.get? b=Φ o->h'.get? b=Φ o)->s.heap.objs.size<h'.objs.size->i.Perm (es.toList.map (·.2))->R i {s with heap:=h',drawn:=d',toks:=tk}):
  wpAny (model prog w) A (collect (.ref a)) R E s:=by
 have H:a<s.heap.objs.size:=Κ u;unfold collect;refine Θ (wpAny_runValue (Ϝ PySem.F.entry_proto_collect ?_));rw[ϣ PySem.F.plain_proto_collect _];show wpAny _ A.in1 (newList []>>=λl=>again (.builtin "list.__iadd__" ⟨[l,.ref a],[]⟩)) _ _ s;refine Θ (ό ?_);refine Ξ ⟨plainId_quiet PySem.F.plain_list_iadd _,Ϝ PySem.F.entry_list_iadd ?_⟩;rw[ϣ PySem.F.plain_list_iadd _];have j:(s.heap.push {cls:=.type "list",data:=.seq ([]:List Λ).toArray}).get? s.heap.objs.size=Φ {cls:=.type "list",data:=.seq #[]}:=Ι _ rfl;show wpAny _ A.in1 (Builtin.List.listExtendWith (.ref s.heap.objs.size) (.ref a) (.ref s.heap.objs.size)) _ _ _;have p:=zhN (prog:=prog) (w:=w) (A:=A) (s:={s with heap:=s.heap.push {cls:=.type "list",data:=.seq ([]:List Λ).toArray}})
  (R:=λ(q:Result) (r:Η)=>∃(h':Heap) (d':Drawn) (tk:Nat) (c:Array Λ) (k:Nat),q=.ok (.ret (.ref s.heap.objs.size))/\r={s with heap:=h',drawn:=d',toks:=tk}/\
   (∀b o,s.heap.get? b=Φ o->h'.get? b=Φ o)/\h'.get? s.heap.objs.size=Φ {cls:=.type "list",dict:=Ψ,data:=.seq c k,slots:=#[]}/\c.toList.Perm (es.toList.map (·.2)))
  B (Ω _ u) n hd C G hz s.heap.objs.size (ne_of_gt H) (.ref s.heap.objs.size) 0 j
  (λh' d' tk c k m g d=>⟨h',d',tk,c,k,rfl,rfl,λb o e=>m b o (ne_of_lt (Κ e)) (Ω _ e),g,d⟩)
 refine Ϥ p (λfin r x=>?_) λe r x=>?_;cases fin with| done f=>obtain⟨h',d',tk,c,k,e,rfl,m,g,d⟩:=x;cases e;show wpAny _ A (load s.heap.objs.size>>=_) _ _ _;exact Θ (wpAny_load g (Ξ (h h' d' tk _ m (Κ g) d)))| again v=>refine⟨x.1,ϩ x.2 λq z y=>?_⟩;obtain⟨h',d',tk,c,k,rfl,rfl,m,g,d⟩:=y;show wpAny _ A (load s.heap.objs.size>>=_) _ _ _;exact Θ (wpAny_load g (Ξ (h h' d' tk _ m (Κ g) d)))
 obtain⟨_,_,_,_,_,I,_⟩:=x;cases I
end
end R
namespace R
open PySem PySem.Spec PyProof.Rows L2
theorem zeW(x):∀l:List Int,(insZ x l).Perm (x::l)
 | []=>List.Perm.refl _| y::l=>by unfold insZ;split;exact List.Perm.refl _;exact((zeW x l).cons y).trans (List.Perm.swap ..)
theorem zej(x):∀{l:List Int},l.Pairwise (·<=·)->(insZ x l).Pairwise (·<=·)
 | [],_=>by simp[insZ]| y::l,h=>by have a:=pairwise_cons.mp h;unfold insZ;split;rename_i c;exact pairwise_cons.mpr ⟨λz b=>by rcases mem_cons.mp b with e|e;rw[e];exact c;exact Int.le_trans c (a.1 z e),h⟩;rename_i c;refine pairwise_cons.mpr ⟨λz b=>?_,zej x a.2⟩;rcases mem_cons.mp ((zeW x l).mem_iff.mp b) with e|e;rw[e];lia;exact a.1 z e
theorem zbo:∀l:List Int,(zeC l).Perm l
 | []=>List.Perm.refl _|x::l=>(zeW x _).trans ((zbo l).cons x)
theorem zcT:∀l:List Int,(zeC l).Pairwise (·<=·)
 | []=>Pairwise.nil|x::l=>zej x (zcT l)
theorem zea:∀{a b:List Int},a.Perm b->a.Pairwise (·<=·)->b.Pairwise (·<=·)->a=b
 | [],b,p,_,_=>(List.nil_perm.mp p).symm|x::a,[],p,_,_=>absurd (List.perm_nil.mp p) (by simp)| x::a,y::b,p,f,g=>by
  have c:=pairwise_cons.mp f;have d:=pairwise_cons.mp g;have h:y<=x:=by rcases mem_cons.mp (p.mem_iff.mp Ρ) with e|e;exact Int.le_of_eq e.symm;exact d.1 x e
  have i:x<=y:=by rcases mem_cons.mp (p.mem_iff.mpr Ρ) with e|e;exact Int.le_of_eq e.symm;exact c.1 y e
  cases Int.le_antisymm h i;rw[zea (List.Perm.cons_inv p) c.2 d.2]
theorem zgG(ns):(R.dedup ns).Nodup:=by
 unfold R.dedup;suffices ∀(l d:List Int),d.Nodup->(l.foldl (λd x=>if d.contains x then d else d++[x]) d).Nodup from this ns [] List.nodup_nil
 intro l;induction l with|nil=>intro d h;exact h| cons x l g=>intro d h;refine g _ ?_;show(if d.contains x=Γ then d else d++[x]).Nodup;split;exact h;rename_i c;refine nodup_append.mpr ⟨h,by simp,λa i b f e=>?_⟩;simp only[mem_singleton]at f;subst f;subst e;exact c (by simpa using i)
theorem zcb:∀{a:List Int}{b:List Int},a.Nodup->(∀x∈a,x∈b)->b.length=a.length->a.Perm b
 | [],b,_,_,h=>by rw[List.length_eq_zero_iff.mp h]| x::a,b,i,d,h=>by have c:=nodup_cons.mp i;have f:=d x Ρ;have j:=List.perm_cons_erase f;refine List.Perm.trans ((zcb (b:=b.erase x) c.2 (λy g=>?_) ?_).cons x) j.symm;exact(List.mem_erase_of_ne (λe:y=x=>c.1 (e▸g))).mpr (d y (Ν _ g));rw[List.length_erase_of_mem f,h];simp
def SetO(prog:Τ)(w:ϐ)(o:Obj)(ns:List Int):Prop:=∃a c t b,o.ExactSet/\o.data=.set a c t/\t.fits a.size=Γ/\TOk (!byT w) t/\a.size<scanBound/\IntsAre (a.toList.map (·.2)) b/\b.Perm ns
theorem zj4:∀{l:List (Int×Λ)},ElemsOf (intKind prog w) l->∃a,IntsAre (l.map (·.2)) a
 | [],_=>⟨[],.nil⟩| e::l,h=>by obtain⟨a,b⟩:=zj4 (l:=l) λx c=>h x (Ν _ c);obtain⟨⟨k,d,_⟩,_⟩:=h e Ρ;obtain⟨t,f⟩:=Λ.isInt_shape d;exact⟨k::a,by rw[ϋ,f];exact .cons _ _ b⟩
theorem zj3:∀{us vs:List Λ}{ns:List Int},us.Perm vs->IntsAre vs ns->∃a,IntsAre us a/\a.Perm ns:=by
 intro us vs ns p;induction p generalizing ns with
 |nil=>intro h;exact⟨ns,h,List.Perm.refl _⟩| cons x p f=>intro h;cases h with| cons _ _ h=>obtain⟨a,b,c⟩:=f h;exact⟨_::a,.cons _ _ b,c.cons _⟩
 |swap x y l=>intro h;cases h with| cons _ _ h=>cases h with|cons _ _ h=>exact⟨_,.cons _ _ (.cons _ _ h),List.Perm.swap ..⟩
 |trans p q d e=>intro h;obtain⟨a,b,c⟩:=e h;obtain⟨g,i,j⟩:=d b;exact⟨g,i,j.trans c⟩
theorem zhe:∀{l:List (Int×Λ)}{b:List Int},IntsAre (l.map (·.2)) b->∀k,(∃e∈l,(intKind prog w).is k e.2=Γ)->k∈b
 | [],_,h,k,⟨e,a,_⟩=>by simp at a| e::l,_,h,k,⟨f,a,c⟩=>by rw[ϋ]at h;generalize g:e.2=v at h;cases h with| cons _ _ h=>rcases mem_cons.mp a with z|z;obtain⟨t,d⟩:=Λ.isInt_shape c;rw[z,g]at d;cases d;exact Ρ;exact Ν _ (zhe h k ⟨f,z,c⟩)
theorem SetO.of(x:SetD prog w h a S ns.length)(c:ns.Nodup)(d:∀k∈ns,S k=Γ):∃o,h.get? a=Φ o/\SetO prog w o ns:=by obtain⟨o,e,f,t,g,i,j,l,m,n,p,q,r⟩:=x;obtain⟨s,b⟩:=zj4 l;refine⟨o,g,e,f,t,s,i,j,p,r,n,b,(zcb c (λk u=>zhe b k ((m k).mp (d k u))) ?_).symm⟩;rw[<-b.length,length_map,length_toList,q]
section
variable[Mks]{X:Cx}
theorem zj2(I:Inv X c σ H s)(k:∀b u,s.heap.get? b=Φ u->h'.get? b=Φ u)(d:s.heap.objs.size<=a)(new:ObjOk X.prog X.w (upd H a o) h' a o):
 Inv X c σ (upd H a o) {s with heap:=h',drawn:=d',toks:=t'}:=I.call' rfl (Un.laid k d (I.hok.fresh d)) (I.hok.laid k d new) I.bare λb (e:b∈([]:List Addr))=>by cases e
theorem znd(l:X.calm=Γ):za0 X (.type "set") (λxs H Q=>∃(a:Addr) (ns:List Int),xs=[.ref a]/\SqL X.K H a (ns.map V.int)/\ns.length<4000/\∀p,H p=Ψ->∀o,SetO X.prog X.w o (R.dedup ns)->Q (.ref p) (upd H p (.frz o (.own 0)))):=by
 intro d s B H xs C Q I r h;obtain⟨a,ns,rfl,m,E,q⟩:=h;obtain⟨u,rfl,n⟩:=r.one;cases(show u=Λ.ref a from n);have fresh:=I.hok.fresh (le_refl s.heap.objs.size);have t:=I.ok.hd l;obtain⟨c,f,v,w⟩:=I.list m;have x:c.toArray.size=ns.length:=by rw[size_toArray,<-f.length,length_map]
 refine ziW t v.isList (zbq f) (by unfold scanBound;lia) λg G i y=>?_;rw[x,<-zcB]at i;obtain⟨o,j,z⟩:=SetO.of i (zgG ns) (λk A=>List.any_eq_true.mpr ⟨k,A,by simp⟩);exact⟨.ref s.heap.objs.size,_,I.laid (o:=.frz o (.own 0)) (λb o e=>y b o (Κ e) e) (le_refl _) ⟨j,_,j⟩,rfl,q _ fresh o z⟩
theorem zhK(C:X.calm=Γ):za0 X (.builtin "sorted") (λxs H Q=>∃(a:Addr) (o:Obj) (ns:List Int),xs=[.ref a]/\H a=Φ (.frz o (.own 0))/\SetO X.prog X.w o ns/\ns.length<64/\∀p,H p=Ψ->Q (.ref p) (upd H p (.lst ((zeC ns).map V.int)))):=by
 intro x s σ H xs us Q I r h;obtain⟨a,o,ns,rfl,E,⟨es,ep,t,ms,G,J,L,M,N,O,y⟩,l,q⟩:=h;obtain⟨u,rfl,T⟩:=r.one;cases(show u=Λ.ref a from T);have U:s.heap.get? a=Φ o:=(show ObjOk X.prog X.w H s.heap a (.frz o (.own 0)) from I.hok a _ E).1;have Y:X.A.handled=Ψ:=I.ok.hd C;refine Calls.call_function_entry kind_sorted plain_sorted entry_sorted (args_sorted1 _) ?_;unfold Builtin.«sorted»;refine Θ (m:=checkCount "sorted" 1 1 _) (Ξ ?_);refine Θ (zdh Y U G J L M N λk d' tk d kp n hp=>?_);obtain⟨ks,g,z⟩:=zj3 hp O;have i:d.length<64:=by rw[g.length,(z.trans y).length_eq];exact l
 refine Θ (wpAny_newList ?_ (by rw[ϔ];lia));have f:(k.push (seqObj "list" d.toArray 0)).get? k.objs.size=Φ (seqObj "list" d.toArray 0):=Ι _ rfl;refine Θ (ϖ (ύ slot_list_sort ⟨_,f,rfl⟩ entry_list_sort (list_sort_tree f g i λout v a1 a2 a3=>⟨_,rfl,?_⟩) (args_list_sort _)));have j:s.heap.objs.size<=k.objs.size:=le_of_lt n;have en:v=zeC ns:=zea (a2.trans (z.trans (y.trans (zbo ns).symm))) a3 (zcT ns);subst en;obtain⟨c,w⟩:=sortedHeap_at (out:=out) f;refine Ξ ⟨_,rfl,.ref k.objs.size,_,zj2 (s:=s) (d':=d') (t':=tk) (o:=.lst ((zeC ns).map V.int)) I (λb u e=>?_) j ⟨?_,out.toList,c,zdc a1,?_⟩,rfl,q _ (I.hok.fresh j)⟩;have A:=kp b u e;have B:=Κ A;rw[sortedHeap_old (ne_of_lt B) (Nat.lt_of_lt_of_eq (ϝ B) (ϒ ..).symm)];exact Ω _ A;rw[length_map,(zbo ns).length_eq,ϔ];lia;exact w
variable{T:Tab}{cf:CF}{k:Nat}{N:List Str}{sc:Scope}{pos p p2 pos':Pos}
theorem zf8:bootBuiltins "sorted"=Φ (.builtin "sorted"):=by rfl
theorem znf(G:Gd T cf k N sc X)(n:Gl X "sorted"/\X.mg "sorted"=Ψ)(r:Gl X "set"/\X.mg "set"=Ψ)(A:PE X e (tE X.K cf B))(c:zai e=Γ):
  PE X (.Call (.Name "sorted" p) [.Call (.Name "set" p2) [e] [] pos'] [] pos) (tE X.K cf (.sset B)):=by
 have j:=zaN (p:=p2) (pos:=pos') (znd G.calm) r.1 r.2 zkB (zaA A c) (by decide) (by decide) (zaj c [] X.env);refine PE.imp (zbY (zhK G.calm) n.1 n.2 zf8 (zaA j rfl) (by decide) (by decide) rfl) λσ H Qv z=>?_;obtain⟨δ,ι,S,Q,C,E,w,q⟩:=z;change W (Out.bind _ _) _ at w;simp only[zab] at w;refine tE.run C E w λd v f s I J L g M O=>?_;obtain⟨t,b,m⟩:=zau O;unfold lstI at b;split at m;cases d with
 |ref l=>
  obtain⟨a,U,rfl⟩:=M;dsimp only at b;cases h:I.get l with
  |none=>rw[h]at b;exact nS b
  |some Y=>rw[h]at b;cases Y with| lst ds=>obtain⟨a',u,zs,ha,x⟩:=g.obj _ _ h;rw[U]at u;cases u;rw[zcA b]at x;have:=x.ints_eq;subst this;have hd:=zfT t;obtain⟨c2,w3⟩:=zcd m;refine⟨a,t,rfl,SqL.of ha,by lia,λy i o so=>⟨y,o,_,rfl,zao,so,by lia,λl hl=>?_⟩⟩;have h:Ext f s f (upd s y (.frz o (.own 0))):=Ext.new i _;exact q _ _ (Lf.up (J.trans h) (Lf.lst (g.new i _) hl (RVs.ints _) w3))|_=>exact nS b
 |_=>exact nS b
 exact m.elim
end
section
variable[Mks]{X:Cx}
variable{T:Tab}{cf:CF}{k:Nat}{N:List Str}{sc:Scope}{pos p:Pos}
theorem zq5:bootBuiltins "min"=Φ (.builtin "min"):=by rfl
end
section
variable{prog:Τ}{w:ϐ}{A:ϑ}{E:Λ->Η->Prop}{s:Η}{a:Addr}{kvs:List (Key×Λ)}{ep:Nat}
theorem zeZ{P:List Λ->Prop}(B:a<s.heap.objs.size)(m:∀(R:Result->Η->Prop)(r:Η),r={s with heap:=s.heap.push {cls:=.type "list",data:=.seq #[]}}->
   (∀h' j n c,(∀b o,b≠s.heap.objs.size->r.heap.get? b=Φ o->h'.get? b=Φ o)->h'.get? s.heap.objs.size=Φ {cls:=.type "list",dict:=Ψ,data:=.seq n c,slots:=#[]}->P n.toList->R (.ok (.ret (.ref s.heap.objs.size))) {r with heap:=h',toks:=j})->
   wpAny (model prog w) A.in1 (Builtin.List.listExtendWith (.ref s.heap.objs.size) (.ref a) (.ref s.heap.objs.size))
    (λfin s'=>match fin with|.done f=>R (.ok f) s'|.again k=>k.quiet=Γ/\codeAny (model prog w) A k R s') (λe s'=>R (.error e) s') r)(h:∀(h':Heap)(j:Nat)(l:List Λ),(∀b o,s.heap.get? b=Φ o->h'.get? b=Φ o)->s.heap.objs.size<h'.objs.size->P l->v l {s with heap:=h',toks:=j}):
  wpAny (model prog w) A (collect (.ref a)) v E s:=by
 refine Θ (wpAny_runValue (Ϝ PySem.F.entry_proto_collect ?_));refine Θ (ό ?_);refine Ξ ⟨plainId_quiet PySem.F.plain_list_iadd _,Ϝ PySem.F.entry_list_iadd ?_⟩;have m:=m (λ(q:Result) (s':Η)=>∃(h':Heap) (j:Nat) (d:Array Λ) (k:Nat),q=.ok (.ret (.ref s.heap.objs.size))/\s'={s with heap:=h',toks:=j}/\
   (∀b o,s.heap.get? b=Φ o->h'.get? b=Φ o)/\h'.get? s.heap.objs.size=Φ {cls:=.type "list",dict:=Ψ,data:=.seq d k,slots:=#[]}/\P d.toList) _ rfl
  (λh' j d k p i g=>⟨h',j,d,k,rfl,rfl,λb o e=>p b o (ne_of_lt (Κ e)) (Ω _ e),i,g⟩)
 refine Ϥ m (λfin s' x=>?_) λe s' x=>?_;cases fin with| done f=>obtain⟨h',j,d,k,e,rfl,p,i,g⟩:=x;cases e;exact Θ (wpAny_load i (Ξ (h h' j _ p (Κ i) g)))| again t=>refine⟨x.1,ϩ x.2 λq u y=>?_⟩;obtain⟨h',j,d,k,rfl,rfl,p,i,g⟩:=y;exact Θ (wpAny_load i (Ξ (h h' j _ p (Κ i) g)))
 obtain⟨_,_,_,_,z,_⟩:=x;cases z
end
theorem zk7(it:us.length=n/\∀(j:Nat)(v:Λ),us[j]?=Φ v->∃t,v=Λ.int (0+(j:Int)*1) t):Vals ((List.range n).map λ(j:Nat)=>V.int j) us:=by
 obtain⟨c,f⟩:=it;induction n generalizing us with
 |zero=>cases us with
  |nil=>exact .nil|cons _ _=>simp at c
 |succ n g=>
  have a:us≠[]:=by intro z;subst z;simp at c
  have d:=(List.dropLast_concat_getLast a).symm;rw[List.range_succ,map_append,d];have b:us.dropLast.length=n:=by simp[c]
  refine Vals.append (g b λj v e=>f j v ?_) (.cons ?_ .nil);have h:=(Β.mp e).1;rw[d,getElem?_append_left h];exact e;obtain⟨t,e⟩:=f n (us.getLast a) (by
   conv=>lhs;rw[d]
   simp[b])
  exact⟨t,by simpa using e⟩
section
variable{prog:Τ}{w:ϐ}{A:ϑ}{E:Λ->Η->Prop}{s:Η}
theorem zd6{n:Nat}(L:A.handled=Ψ)(l:IsRange s.heap r a b c t u v)(f:Builtin.Range.small a b c=Γ)(M:Builtin.Range.rangeSize a b c=n)(g:n<=16777216)(h:∀(h':Heap)(k:Nat)(d:List Λ),(∀b o,s.heap.get? b=Φ o->h'.get? b=Φ o)->(d.length=n/\∀(i:Nat)(x:Λ),d[i]?=Φ x->∃t,x=.int (a+i*c) t)->Q₁ (.ref h'.objs.size) {s with heap:=h'.push {cls:=.type "tuple",data:=.seq d.toArray},toks:=k}):
  codeAny (model prog w) A (.call (.builtin "tuple.__new__") ⟨[.type "tuple",.ref r],[]⟩) (wants Q₁ E) s:=by
 refine codeAny_of_tree ?_;show wpAny _ A.in1 (do checkBuiltinCall "tuple.__new__" ⟨[.type "tuple",.ref r],[]⟩;again (.builtin "tuple.__new__" ⟨[.type "tuple",.ref r],[]⟩)) _ _ s;refine Θ (wpAny_of_eq (F.newCall_tuple_1 _) (Ξ ⟨plainId_quiet F.plain_tuple_new _,Ϝ F.entry_tuple_new ?_⟩));rw[ϣ F.plain_tuple_new _];have H:=sub_tuple_self;have m:=init_tuple_lookup;have N:=madeHere_tuple;have p:s.TypeIs (.ref r) "range":=⟨_,l,rfl⟩;have q:∀{A':ϑ}{y:List Λ->Η->Prop}{I:Λ->Η->Prop},A'.handled=Ψ->(∀(h':Heap)(k:Nat)(d:List Λ),(∀b o,s.heap.get? b=Φ o->h'.get? b=Φ o)->s.heap.objs.size<h'.objs.size->(d.length=n/\∀(i:Nat)(x:Λ),d[i]?=Φ x->∃t,x=.int (a+i*c) t)->y d {s with heap:=h',toks:=k})->wpAny (model prog w) A' (collect (.ref r)) y I s:=by intro A' y I z O;refine zeZ (Κ l) (λR s1 Q B=>?_) O;subst Q;exact wpAny_extend_range z (Ω _ l) f M g _ _ 0 (Ι _ rfl) λh' k C T U G j=>B h' k C T U G ⟨by rw[length_toList];exact j.1,λi x e=>j.2 i x (by simpa using e)⟩
 wp_walk using wpAny_typeOf p,q (A':=A.in1) L
 intro h' k d Y hlt J;show wpAny _ _ (Builtin.Tuple.tupleExact d.toArray>>=λv=>ret v) _ _ _;unfold Builtin.Tuple.tupleExact;refine Θ (ό ?_ (by show d.toArray.size<=sizeLine;rw[size_toArray,J.1,ϔ];exact g));refine Ξ ?_;exact h h' k d Y J
end
section
variable[Mks]{X:Cx}
variable{T:Tab}{cf:CF}{k:Nat}{N:List Str}{sc:Scope}{pos p p2 pos':Pos}
theorem ziJ(z:X.calm=Γ):za0 X (.type "tuple") (λxs H Q=>∃p d,xs=[.ref p]/\H p=Φ (.rng 0 d)/\-(2^62)<=d/\d<2^62/\d.toNat<=16777216/\∀l,H l=Ψ->Q (.ref l) (upd H l (.tup ((List.range d.toNat).map λ(j:Nat)=>.int j)))):=by
 intro g s m H xs U Q I r h;obtain⟨p,d,rfl,A,B,C,n,q⟩:=h;obtain⟨u,rfl,E⟩:=r.one;cases(show u=Λ.ref p from E);obtain⟨t,Y,t3,e⟩:=(show ObjOk X.prog X.w H s.heap p (.rng 0 d) from I.hok p _ A);have G:=I.ok.hd z;have J:Builtin.Range.rangeSize 0 d 1=(d.toNat:Nat):=by rw[rangeSize_one];split<;>lia
 refine callType_codes (Q₁:=λf a=>a.TypeIs f "tuple"/\∃v w,Inv X g m w a/\RelV v f/\Q v w) F.called_tuple (F.typeCall_tuple_1 _) F.entry_object_init ?_ λf a c=>?_;refine zd6 G e (small_one (by decide) (by decide) B C) J n λx L i M O=>⟨⟨_,Ι _ rfl,rfl⟩,?_⟩;have y:Inv X g m H {s with heap:=x,toks:=L}:=I.kept M;refine⟨.ref x.objs.size,_,y.laid (o:=.tup ((List.range d.toNat).map λ(j:Nat)=>.int j)) (λb o e=>Ω _ e) (le_refl _) ⟨?_,i,zk7 O,IsTup.new _ _⟩,rfl,q _ (y.hok.fresh (le_refl _))⟩;rw[length_map,length_range];exact n;exact⟨c.1,F.args_object_init_2 f _,object_init_meets F.called_tuple.init.lookup F.called_tuple.made (by decide) X.prog X.w X.A.in1 _ a ⟨c.1,rfl,c.2⟩⟩
theorem zk0(G:Gd T cf k N sc X)(o:Gl X "tuple"/\X.mg "tuple"=Ψ)(r:Gl X "range"/\X.mg "range"=Ψ)(t:PE X a (tE X.K cf u))(e:zai a=Γ):
  PE X (.Call (.Name "tuple" p) [.Call (.Name "range" p2) [a] [] pos'] [] pos) (tE X.K cf (.mkT (.rng1 u))):=by
 have g:=zaN (p:=p2) (pos:=pos') zfm r.1 r.2 zhD (zaA t e) (by decide) (by decide) (zaj e [] X.env);refine PE.imp (zaN (ziJ G.calm) o.1 o.2 ze6 (zaA g rfl) (by decide) (by decide) rfl) λL H M z=>?_;obtain⟨O,ι,S,Q,x,y,w,q⟩:=z;change W (Out.bind (Out.bind _ _) _) _ at w;simp only[zab]at w;refine tE.run x y w λd v h A U B C i E b=>?_;cases d with| int j=>obtain rfl:v=.int j:=E;dsimp only at b;split at b;rename_i c;rw[W_ok]at b;split at b;rename_i I;refine⟨j,rfl,λs f=>⟨s,j,rfl,zao,c.1,c.2,by simpa using I,λl J=>?_⟩⟩;have n:=i.new f (.rng 0 j);refine q _ _ (Lf.up (B.trans (Ext.new f _)) (Lf.tup n J ?_ b));have:=RVs.ints (K:=X.K) (ι:=h) (H:=upd A s (.rng 0 j)) ((List.range j.toNat).map λ(m:Nat)=>(m:Int));rw[map_map,map_map]at this;exact this;exact b.elim;exact b.elim|_=>exact b.elim
end
end R
namespace R
namespace Sr
open PySem PyProof.Rows
noncomputable def za2:Bool->Keyed->Array Keyed->Nat->Nat->Nat->StateT SortSt Sem (Option Nat):=sortPriv% PySem.Builtin.gallop
noncomputable def zc5:Array Keyed->Array Keyed->StateT SortSt Sem (Array Keyed):=sortPriv% PySem.Builtin.mergeLo
noncomputable def zc6:Array Keyed->Array Keyed->StateT SortSt Sem (Array Keyed):=sortPriv% PySem.Builtin.mergeHi
noncomputable abbrev setG(st:SortSt)(g:Nat):SortSt:=SortSt.mk' (kindOf st) (arrOf st) (pendingOf st) g (failedOf st)
noncomputable def zew(left:Bool)(a:Keyed)(b:Array Keyed)(base i:Nat):StateT SortSt Sem (Option Bool):=do
 let x <-elem' b (base+i)
 if left then lt' x a else return (<-lt' a x).map (!·)
theorem zik(left:Bool)(key:Keyed)(arr:Array Keyed)(base n hint:Nat):za2 left key arr base n hint=(do
 let mut lastofs:=0;let mut ofs:=1;let mut lo:=0;let mut hi:=0
 let Φ right <-zew left key arr base hint|return Ψ
 if right then
  let maxofs:=n-hint
  for _ in [0:n] do
   if ofs≥maxofs then break
   let Φ more <-zew left key arr base (hint+ofs)|return Ψ
   if !more then break
   lastofs:=ofs
   ofs:=2*ofs+1
  lo:=hint+lastofs+1
  hi:=hint+min ofs maxofs
 else
  let maxofs:=hint+1
  for _ in [0:n] do
   if ofs≥maxofs then break
   let Φ found <-zew left key arr base (hint-ofs)|return Ψ
   if found then break
   lastofs:=ofs
   ofs:=2*ofs+1
  lo:=hint+1-min ofs maxofs
  hi:=hint-lastofs
 for _ in [0:n] do
  if lo≥hi then break
  let m:=lo+(hi-lo)/2
  let Φ more <-zew left key arr base m|return Ψ
  if more then lo:=m+1 else hi:=m
 return Φ hi):=rfl
theorem zgy(a b:Array Keyed):zc5 a b=(do
 rule "list.sort.merge-lo"
 let mut out:Array Keyed:=#[<-elem' b 0];let mut ia:=0;let mut ib:=1
 if ib==b.size then return out++a.extract ia a.size++b.extract ib b.size
 if ia+1==a.size then return out++b.extract ib b.size++a.extract ia a.size
 let mut minGallop:=gallopOf (<-get)
 for _ in [0:a.size+b.size] do
  let mut acount:=0;let mut bcount:=0
  for _ in [0:a.size+b.size] do
   let Φ bWins <-lt' (<-elem' b ib) (<-elem' a ia)|return out++a.extract ia a.size++b.extract ib b.size
   if bWins then
    out:=out.push (<-elem' b ib);ib:=ib+1;bcount:=bcount+1;acount:=0
    if ib==b.size then return out++a.extract ia a.size++b.extract ib b.size
    if bcount≥minGallop then break
   else
    out:=out.push (<-elem' a ia);ia:=ia+1;acount:=acount+1;bcount:=0
    if ia+1==a.size then return out++b.extract ib b.size++a.extract ia a.size
    if acount≥minGallop then break
  rule "list.sort.gallop"
  minGallop:=minGallop+1
  for _ in [0:a.size+b.size] do
   if minGallop>1 then minGallop:=minGallop-1
   modify (setG · minGallop)
   let Φ k <-za2 Δ (<-elem' b ib) a ia (a.size-ia) 0|return out++a.extract ia a.size++b.extract ib b.size
   acount:=k
   if k>0 then
    out:=out++a.extract ia (ia+k);ia:=ia+k
    if ia+1==a.size then return out++b.extract ib b.size++a.extract ia a.size
    if ia==a.size then return out++a.extract ia a.size++b.extract ib b.size
   out:=out.push (<-elem' b ib);ib:=ib+1
   if ib==b.size then return out++a.extract ia a.size++b.extract ib b.size
   let Φ k <-za2 Γ (<-elem' a ia) b ib (b.size-ib) 0|return out++a.extract ia a.size++b.extract ib b.size
   bcount:=k
   if k>0 then
    out:=out++b.extract ib (ib+k);ib:=ib+k
    if ib==b.size then return out++a.extract ia a.size++b.extract ib b.size
   out:=out.push (<-elem' a ia);ia:=ia+1
   if ia+1==a.size then return out++b.extract ib b.size++a.extract ia a.size
   if acount<7&&bcount<7 then break
  minGallop:=minGallop+1
  modify (setG · minGallop)
 unsupported "internal:list.sort.merge-bound"):=rfl
theorem zgz(a b:Array Keyed):zc6 a b=(do
 rule "list.sort.merge-hi"
 let mut na:=a.size-1;let mut nb:=b.size;let mut out:Array Keyed:=#[<-elem' a na]
 if na==0 then return a.extract 0 na++b.extract 0 nb++out.reverse
 if nb==1 then return b.extract 0 nb++a.extract 0 na++out.reverse
 let mut minGallop:=gallopOf (<-get)
 for _ in [0:a.size+b.size] do
  let mut acount:=0;let mut bcount:=0
  for _ in [0:a.size+b.size] do
   let Φ aWins <-lt' (<-elem' b (nb-1)) (<-elem' a (na-1))|return a.extract 0 na++b.extract 0 nb++out.reverse
   if aWins then
    na:=na-1;out:=out.push (<-elem' a na);acount:=acount+1;bcount:=0
    if na==0 then return a.extract 0 na++b.extract 0 nb++out.reverse
    if acount≥minGallop then break
   else
    nb:=nb-1;out:=out.push (<-elem' b nb);bcount:=bcount+1;acount:=0
    if nb==1 then return b.extract 0 nb++a.extract 0 na++out.reverse
    if bcount≥minGallop then break
  rule "list.sort.gallop"
  minGallop:=minGallop+1
  for _ in [0:a.size+b.size] do
   if minGallop>1 then minGallop:=minGallop-1
   modify (setG · minGallop)
   let Φ at_ <-za2 Δ (<-elem' b (nb-1)) a 0 na (na-1)|return a.extract 0 na++b.extract 0 nb++out.reverse
   let k:=na-at_
   acount:=k
   if k>0 then
    out:=out++(a.extract at_ na).reverse;na:=at_
    if na==0 then return a.extract 0 na++b.extract 0 nb++out.reverse
   nb:=nb-1;out:=out.push (<-elem' b nb)
   if nb==1 then return b.extract 0 nb++a.extract 0 na++out.reverse
   let Φ at_ <-za2 Γ (<-elem' a (na-1)) b 0 nb (nb-1)|return a.extract 0 na++b.extract 0 nb++out.reverse
   let k:=nb-at_
   bcount:=k
   if k>0 then
    out:=out++(b.extract at_ nb).reverse;nb:=at_
    if nb==1 then return b.extract 0 nb++a.extract 0 na++out.reverse
    if nb==0 then return a.extract 0 na++b.extract 0 nb++out.reverse
   na:=na-1;out:=out.push (<-elem' a na)
   if na==0 then return a.extract 0 na++b.extract 0 nb++out.reverse
   if acount<7&&bcount<7 then break
  minGallop:=minGallop+1
  modify (setG · minGallop)
 unsupported "internal:list.sort.merge-bound"):=rfl
theorem zgA(i:Nat):mergeAt' i=(do
 let s <-get
 let (Φ (sa,na,power),Φ (sb,nb,_)):=((pendingOf s)[i]?,(pendingOf s)[i+1]?)|unsupported "internal:list.sort.pending"
 set (setPending s (((pendingOf s).setIfInBounds i (sa,na+nb,power)).eraseIdxIfInBounds (i+1)))
 let Φ k <-za2 Δ (<-elem' (arrOf s) sb) (arrOf s) sa na 0|return Δ
 let (sa,na):=(sa+k,na-k)
 if na==0 then return Γ
 let Φ nb <-za2 Γ (<-elem' (arrOf s) (sa+na-1)) (arrOf s) sb nb (nb-1)|return Δ
 if nb==0 then return Γ
 let x:=(arrOf s).extract sa sb;let y:=(arrOf s).extract sb (sb+nb);let merged <-if na<=nb then zc5 x y else zc6 x y
 modify λs=>setArr s (merged.toList.zipIdx.foldl (λa (p,j)=>a.setIfInBounds (sa+j) p) (arrOf s))
 return (failedOf (<-get)).isNone):=rfl
section
variable{prog:Τ}{w:ϐ}{A:ϑ}{E:Λ->Η->Prop}{s:Η}{κ:SortKind}{rk:Keyed->Int}{T:List Keyed}
noncomputable def Looks(prog:Τ)(w:ϐ)(A:ϑ)(s:Η)(κ:SortKind)(rk:Keyed->Int)(T:List Keyed):Prop:=∀x y (C:Bool->Η->Prop),x∈T->y∈T->C (decide (rk x<rk y)) s->wpAny (model prog w) A (keyLt' κ x.1 y.1) C (λ_ _=>False) s
theorem zjA(c:Looks prog w A s κ rk T){x y:Keyed}{st:SortSt}{Q:Option Bool->SortSt->Prop}(d:x∈T)(e:y∈T)(f:kindOf st=κ)(h:Q (Φ (decide (rk x<rk y))) st):wpS (model prog w) A E s (lt' x y) Q st:=by rw[lt'_eq];refine Μ (wpS_get ?_);rw[f];refine Μ (wpS_lift (wpAny_attempt (Ϥ (c x y (λb a=>a=s/\b=decide (rk x<rk y)) d e ⟨rfl,rfl⟩) ?_ λ_ _ z=>z.elim)));rintro b a ⟨rfl,rfl⟩;exact⟨rfl,Ο h⟩
theorem zat{a:Array Keyed}{i:Nat}{st:SortSt}{Q:Keyed->SortSt->Prop}(b:i<a.size)(h:Q a[i] st):wpS (model prog w) A E s (elem' a i) Q st:=by rw[elem'_eq,getElem?_pos a i b];exact Ο h
structure Cut(b:Nat->Bool)(n k:Nat):Prop where
 le:k<=n
 yes:∀i,i<k->b i=Γ
 no:∀i,k<=i->i<n->b i=Δ
theorem zmG{bey:Nat->StateT SortSt Sem (Option Bool)}{b:Nat->Bool}{n:Nat}{st:SortSt}{Q:Option Nat->SortSt->Prop}(ask:∀i {Q:Option Bool->SortSt->Prop},i<n->Q (Φ (b i)) st->wpS (model prog w) A E s (bey i) Q st){lo hi:Nat}(h1:lo<=hi)(h2:hi<=n)
  (mono:∀i j,i<=j->j<n->b j=Γ->b i=Γ) (h3:∀i,i<lo->b i=Γ) (h4:∀i,hi<=i->i<n->b i=Δ) (h:∀k,Cut b n k->Q (Φ k) st) :
  wpS (model prog w) A E s (do
   let mut lo:=lo;let mut hi:=hi
   for _ in [0:n] do
    if lo≥hi then break
    let m:=lo+(hi-lo)/2
    let Φ more <-bey m|return Ψ
    if more then lo:=m+1 else hi:=m
   return Φ hi) Q st:=by
 dsimp only;refine Μ (ϫ (Ϧ (I:=λx c st'=>st'=st/\∃lo hi,c=(Ψ,lo,hi)/\lo<=hi/\hi<=n/\hi-lo<=n-x/\(∀i,i<lo->b i=Γ)/\(∀i,hi<=i->i<n->b i=Δ))
  (Q:=λc st'=>st'=st/\∃lo k,c=(Ψ,lo,k)/\Cut b n k) ?_ ?_ ⟨rfl,lo,hi,rfl,h1,h2,by lia,h3,h4⟩) ?_)
 rintro x c st' _ hx ⟨rfl,lo,hi,rfl,a1,a2,a3,a4,a5⟩;dsimp only;by_cases z:lo≥hi;rw[if_pos z];exact Ο ⟨rfl,lo,hi,rfl,a2,λi hi=>a4 i (by lia),a5⟩;rw[if_neg z];refine Μ (ask _ (by lia) ?_);dsimp only;cases eb:b (lo+(hi-lo)/2) with|true=>exact Ο ⟨rfl,_,_,rfl,by lia,a2,by lia,λi hi=>mono i _ (Nat.le_of_lt_succ hi) (by lia) eb,a5⟩| false=>refine Ο ⟨rfl,_,_,rfl,by lia,by lia,by lia,a4,λi h1 h2=>?_⟩;cases e:b i with|false=>rfl|true=>rw[mono _ i h1 h2 e]at eb;cases eb
 rintro c st' ⟨rfl,lo,hi,rfl,a1,a2,a3,a4,a5⟩;exact⟨rfl,lo,hi,rfl,a2,λi hi=>a4 i (by lia),a5⟩;rintro c st' ⟨rfl,lo,k,rfl,ck⟩;exact Ο (h k ck)
theorem zbr{left:Bool}{key:Keyed}{arr:Array Keyed}{base n hint:Nat}{st:SortSt}{Q:Option Nat->SortSt->Prop}(b:Nat->Bool)(hc:Looks prog w A s κ rk T)(hk:kindOf st=κ)(hkey:key∈T)(hT:∀i (h:i<arr.size),arr[i]∈T)(hn:base+n<=arr.size)(hh:hint<n)
  (hb:∀i (h:base+i<arr.size),i<n->b i=if left then decide (rk arr[base+i]<rk key) else !decide (rk key<rk arr[base+i]))
  (mono:∀i j,i<=j->j<n->b j=Γ->b i=Γ) (h:∀k,Cut b n k->Q (Φ k) st):wpS (model prog w) A E s (za2 left key arr base n hint) Q st:=by
 have ask:∀i {Q:Option Bool->SortSt->Prop},i<n->Q (Φ (b i)) st->wpS (model prog w) A E s (zew left key arr base i) Q st:=λi Q hi q=>by refine Μ (zat (show base+i<arr.size by lia) ?_);rw[hb i (by lia) hi]at q;cases left;exact Μ (zjA hc hkey (hT _ _) hk (Ο q));exact zjA hc (hT _ _) hkey hk q
 have mono':∀i j,i<=j->j<n->b i=Δ->b j=Δ:=λi j h1 h2 e=>by cases z:b j with|false=>rfl|true=>rw[mono i j h1 h2 z]at e;cases e
 rw[zik];dsimp only;refine Μ (ask hint hh ?_);dsimp only;cases eh:b hint with
 |true=>
  rw[if_pos rfl];refine Μ (ϫ (Ϧ (I:=λx c st'=>st'=st/\∃l o,c=(Ψ,l,o)/\l<o/\l<n-hint/\x<o/\b (hint+l)=Γ)
   (Q:=λc st'=>st'=st/\∃l o,c=(Ψ,l,o)/\l<o/\l<n-hint/\b (hint+l)=Γ/\(o<n-hint->b (hint+o)=Δ)) ?_ ?_ ⟨rfl,0,1,rfl,by lia,by lia,by lia,eh⟩) ?_)
  rintro x c st' _ hx ⟨rfl,l,o,rfl,a1,a2,a3,a4⟩;dsimp only;by_cases z:o≥n-hint;rw[if_pos z];exact Ο ⟨rfl,l,o,rfl,a1,a2,a4,λ_=>by lia⟩;rw[if_neg z];refine Μ (ask _ (by lia) ?_);dsimp only;cases eb:b (hint+o) with|false=>exact Ο ⟨rfl,l,o,rfl,a1,a2,a4,λ_=>eb⟩|true=>exact Ο ⟨rfl,o,_,rfl,by lia,by lia,by lia,eb⟩
  rintro c st' ⟨rfl,l,o,rfl,a1,a2,a3,a4⟩;exact⟨rfl,l,o,rfl,a1,a2,a4,λ_=>by lia⟩;rintro c st' ⟨rfl,l,o,rfl,a1,a2,a3,a4⟩;dsimp only;exact zmG ask (by lia) (by lia) mono (λi hi=>mono i (hint+l) (by lia) (by lia) a3) (λi h1 h2=>by by_cases z:o<n-hint;exact mono' _ i (by lia) h2 (a4 z);lia) h
 |false=>
  rw[if_neg Ζ];refine Μ (ϫ (Ϧ (I:=λx c st'=>st'=st/\∃l o,c=(Ψ,l,o)/\l<o/\l<hint+1/\x<o/\b (hint-l)=Δ)
   (Q:=λc st'=>st'=st/\∃l o,c=(Ψ,l,o)/\l<o/\l<hint+1/\b (hint-l)=Δ/\(o<hint+1->b (hint-o)=Γ)) ?_ ?_ ⟨rfl,0,1,rfl,by lia,by lia,by lia,eh⟩) ?_)
  rintro x c st' _ hx ⟨rfl,l,o,rfl,a1,a2,a3,a4⟩;dsimp only;by_cases z:o≥hint+1;rw[if_pos z];exact Ο ⟨rfl,l,o,rfl,a1,a2,a4,λ_=>by lia⟩;rw[if_neg z];refine Μ (ask _ (by lia) ?_);dsimp only;cases eb:b (hint-o) with|true=>exact Ο ⟨rfl,l,o,rfl,a1,a2,a4,λ_=>eb⟩|false=>exact Ο ⟨rfl,o,_,rfl,by lia,by lia,by lia,eb⟩
  rintro c st' ⟨rfl,l,o,rfl,a1,a2,a3,a4⟩;exact⟨rfl,l,o,rfl,a1,a2,a4,λ_=>by lia⟩;rintro c st' ⟨rfl,l,o,rfl,a1,a2,a3,a4⟩;dsimp only;exact zmG ask (by lia) (by lia) mono (λi hi=>by by_cases z:o<hint+1;exact mono i _ (by lia) (by lia) (a4 z);lia) (λi h1 h2=>mono' _ i h1 h2 a3) h
end
section
variable{rk:Keyed->Int}{T out xs ys us:List Keyed}
noncomputable def Le(rk:Keyed->Int)(x y:Keyed):Prop:=rk x<=rk y
structure MI(rk:Keyed->Int)(T out xs ys:List Keyed):Prop where
 perm:(out++(xs++ys)).Perm T
 so:out.Pairwise (Le rk)
 sx:xs.Pairwise (Le rk)
 sy:ys.Pairwise (Le rk)
 lo:∀x∈out,∀y,y∈xs\/y∈ys->rk x<=rk y
theorem MI.swap(h:MI rk T out xs ys):MI rk T out ys xs:=⟨(List.Perm.append_left _ List.perm_append_comm).trans h.perm,h.so,h.sy,h.sx,λx hx y hy=>h.lo x hx y hy.symm⟩
theorem MI.push(h:MI rk T out (us++xs) ys)(hu:∀u∈us,∀y∈ys,rk u<=rk y):MI rk T (out++us) xs ys:=by have q:=List.pairwise_append.mp h.sx;refine⟨?_,List.pairwise_append.mpr ⟨h.so,q.1,λx hx y hy=>h.lo x hx y (.inl (mem_append_left _ hy))⟩,q.2.1,h.sy,λx hx y hy=>?_⟩;have:=h.perm;simpa only [append_assoc]using this;rcases mem_append.mp hx with z|z;exact h.lo x z y (hy.imp (mem_append_right _) id);rcases hy with hy|hy;exact q.2.2 x z y hy;exact hu x z y hy
noncomputable def InOrd(rk:Keyed->Int)(T l:List Keyed):Prop:=l.Perm T/\l.Pairwise (Le rk)
theorem MI.fin(h:MI rk T out xs []):InOrd rk T (out++xs):=⟨by simpa using h.perm,List.pairwise_append.mpr ⟨h.so,h.sx,λx hx y hy=>h.lo x hx y (.inl hy)⟩⟩
theorem MI.last(h:MI rk T out xs ys)(hu:∀u∈ys,∀y∈xs,rk u<=rk y):InOrd rk T (out++ys++xs):=by have:=MI.push (us:=ys) (xs:=[]) (by rw[append_nil];exact h.swap) hu;exact this.swap.fin
theorem zox{l:List Keyed}{i:Nat}(a:i<l.length):l.drop i=l[i]::l.drop (i+1):=List.drop_eq_getElem_cons a
theorem zj7{l:List Keyed}(hs:l.Pairwise (Le rk)){i j:Nat}(hj:j<l.length)(hi:i<=j):rk l[i]<=rk l[j]:=by by_cases e:i=j;subst e;exact Int.le_refl _;exact List.pairwise_iff_getElem.mp hs i j _ _ (by lia)
theorem zb0{l:List Keyed}{i:Nat}{y:Keyed}(h:y∈l.drop i):∃j,∃hj:j<l.length,i<=j/\y=l[j]:=by obtain⟨k,hk,e⟩:=ϓ.mp h;rw[List.getElem_drop]at e;rw[List.length_drop]at hk;exact⟨i+k,by lia,by lia,e.symm⟩
theorem zjy{l:List Keyed}{i k:Nat}{y:Keyed}(h:y∈(l.drop i).take k):∃j,∃a:i+j<l.length,j<k/\y=l[i+j]:=by obtain⟨j,a,e⟩:=ϓ.mp h;rw[List.getElem_take,List.getElem_drop]at e;rw[length_take,List.length_drop]at a;exact⟨j,by omega,by omega,e.symm⟩
theorem zkY(l:List Keyed)(i k:Nat):l.drop i=(l.drop i).take k++l.drop (i+k):=by rw[<-List.drop_drop,List.take_append_drop]
theorem zkf(a:Array Keyed)(i k:Nat):(a.extract i (i+k)).toList=(a.toList.drop i).take k:=by rw[Array.toList_extract,List.extract_eq_take_drop];congr 1;lia
theorem zc9(a:Array Keyed)(i:Nat):(a.extract i a.size).toList=a.toList.drop i:=by rw[Array.toList_extract,List.extract_eq_take_drop,List.take_of_length_le (by simp)]
end
noncomputable abbrev Rt(a:Type):=ForInStep (Option (Array Keyed)×a)
noncomputable def mgO{β γ δ:Type}(t:Nat)(f1:γ->β)(f2:γ->β->γ)(f3:γ->β->δ)(f4 f5:δ->γ)(gg:δ->Nat)(L:γ->β->StateT SortSt Sem (Rt β))(G:δ->StateT SortSt Sem (Rt δ))(c:Option (Array Keyed)×γ):StateT SortSt Sem (Rt γ):=do
 let d <-forIn [0:t] ((Ψ,f1 c.2):Option (Array Keyed)×β) λ_ d=>L c.2 d.2
 match d.1 with
 |some r=>pure (.done (Φ r,f2 c.2 d.2))
 | none=>do
   rule "list.sort.gallop"
   let e <-forIn [0:t] ((Ψ,f3 c.2 d.2):Option (Array Keyed)×δ) λ_ e=>G e.2
   match e.1 with
   |some r=>pure (.done (Φ r,f4 e.2))
   | none=>do
     modify (setG · (gg e.2))
     pure (.yield (Ψ,f5 e.2))
noncomputable def mg{β γ δ:Type}(t:Nat)(f0:Nat->γ)(f1:γ->β)(f2:γ->β->γ)(f3:γ->β->δ)(f4 f5:δ->γ)(gg:δ->Nat)(L:γ->β->StateT SortSt Sem (Rt β))(G:δ->StateT SortSt Sem (Rt δ)):StateT SortSt Sem (Array Keyed):=do
 let g:=gallopOf (<-get);let c <-forIn [0:t] ((Ψ,f0 g):Option (Array Keyed)×γ) λ_ c=>mgO t f1 f2 f3 f4 f5 gg L G c
 match c.1 with|some r=>pure r|none=>unsupported "internal:list.sort.merge-bound"
noncomputable def loC(a b out:Array Keyed)(ia ib g k l:Nat):StateT SortSt Sem (Rt (Array Keyed×Nat×Nat×Nat×Nat×Nat)):=do
 let y <-elem' a ia
 if ia+1+1==a.size then pure (.done (Φ (out.push y++b.extract ib b.size++a.extract (ia+1) a.size),out.push y,ia+1,ib,g,k,l))
 else if k<7&&l<7 then pure (.done (Ψ,out.push y,ia+1,ib,g,k,l)) else pure (.yield (Ψ,out.push y,ia+1,ib,g,k,l))
noncomputable def loB(a b out:Array Keyed)(ia ib g k l:Nat):StateT SortSt Sem (Rt (Array Keyed×Nat×Nat×Nat×Nat×Nat)):=do
 let y <-elem' b ib
 if ib+1==b.size then pure (.done (Φ (out.push y++a.extract ia a.size++b.extract (ib+1) b.size),out.push y,ia,ib+1,g,k,l))
 else do
  match <-za2 Γ (<-elem' a ia) b (ib+1) (b.size-(ib+1)) 0 with
  |some m=>
   if m>0 then
    if ib+1+m==b.size then pure (.done (Φ (out.push y++b.extract (ib+1) (ib+1+m)++a.extract ia a.size++b.extract (ib+1+m) b.size),out.push y++b.extract (ib+1) (ib+1+m),ia,ib+1+m,g,k,m))
    else loC a b (out.push y++b.extract (ib+1) (ib+1+m)) ia (ib+1+m) g k m
   else loC a b (out.push y) ia (ib+1) g k m
  |_=>pure (.done (Φ (out.push y++a.extract ia a.size++b.extract (ib+1) b.size),out.push y,ia,ib+1,g,k,l))
noncomputable def loA(a b out:Array Keyed)(ia ib g k l:Nat):StateT SortSt Sem (Rt (Array Keyed×Nat×Nat×Nat×Nat×Nat)):=do
 modify (setG · g)
 match <-za2 Δ (<-elem' b ib) a ia (a.size-ia) 0 with
 |some m=>
  if m>0 then
   if ia+m+1==a.size then pure (.done (Φ (out++a.extract ia (ia+m)++b.extract ib b.size++a.extract (ia+m) a.size),out++a.extract ia (ia+m),ia+m,ib,g,m,l))
   else if ia+m==a.size then pure (.done (Φ (out++a.extract ia (ia+m)++a.extract (ia+m) a.size++b.extract ib b.size),out++a.extract ia (ia+m),ia+m,ib,g,m,l))
   else loB a b (out++a.extract ia (ia+m)) (ia+m) ib g m l
  else loB a b out ia ib g m l
 |_=>pure (.done (Φ (out++a.extract ia a.size++b.extract ib b.size),out,ia,ib,g,k,l))
noncomputable def loL(a b:Array Keyed)(g:Nat)(out:Array Keyed)(i j k l:Nat):StateT SortSt Sem (Rt (Array Keyed×Nat×Nat×Nat×Nat)):=do
 match <-lt' (<-elem' b j) (<-elem' a i) with
 |some z=>
  if z then
   let y <-elem' b j
   if j+1==b.size then pure (.done (Φ (out.push y++a.extract i a.size++b.extract (j+1) b.size),out.push y,i,j+1,0,l+1))
   else if l+1≥g then pure (.done (Ψ,out.push y,i,j+1,0,l+1)) else pure (.yield (Ψ,out.push y,i,j+1,0,l+1))
  else
   let y <-elem' a i
   if i+1+1==a.size then pure (.done (Φ (out.push y++b.extract j b.size++a.extract (i+1) a.size),out.push y,i+1,j,k+1,0))
   else if k+1≥g then pure (.done (Ψ,out.push y,i+1,j,k+1,0)) else pure (.yield (Ψ,out.push y,i+1,j,k+1,0))
 |_=>pure (.done (Φ (out++a.extract i a.size++b.extract j b.size),out,i,j,k,l))
noncomputable def loM(a b out:Array Keyed)(i j:Nat):StateT SortSt Sem (Array Keyed):=
 mg (a.size+b.size) (λg=>(out,i,j,g)) (λc=>(c.1,c.2.1,c.2.2.1,0,0)) (λc d=>(d.1,d.2.1,d.2.2.1,c.2.2.2)) (λc d=>(d.1,d.2.1,d.2.2.1,c.2.2.2+1,d.2.2.2.1,d.2.2.2.2))
  (λe=>(e.1,e.2.1,e.2.2.1,e.2.2.2.1)) (λe=>(e.1,e.2.1,e.2.2.1,e.2.2.2.1+1)) (λe=>e.2.2.2.1+1) (λc d=>loL a b c.2.2.2 d.1 d.2.1 d.2.2.1 d.2.2.2.1 d.2.2.2.2)
  λe=>if e.2.2.2.1>1 then loA a b e.1 e.2.1 e.2.2.1 (e.2.2.2.1-1) e.2.2.2.2.1 e.2.2.2.2.2 else loA a b e.1 e.2.1 e.2.2.1 e.2.2.2.1 e.2.2.2.2.1 e.2.2.2.2.2
theorem zh5(a b:Array Keyed):zc5 a b=(do
 rule "list.sort.merge-lo"
 let y <-elem' b 0
 if 1==b.size then return #[y]++a.extract 0 a.size++b.extract 1 b.size
 if 0+1==a.size then return #[y]++b.extract 1 b.size++a.extract 0 a.size
 loM a b #[y] 0 1):=by
 rw[zgy];dsimp only;refine congrArg (bind _) (funext λ_=>congrArg (bind _) (funext λy=>?_));refine ite_congr rfl (λ_=>rfl) λ_=>ite_congr rfl (λ_=>rfl) λ_=>?_;refine congrArg (bind _) (funext λg=>?_);congr 1;congr 1;funext x c;congr 1;funext d;cases d.1 with|some r=>rfl| none=>refine congrArg (bind _) (funext λ_=>?_);congr 1;funext e;cases e.1<;>rfl
 . funext c;cases c.1<;>rfl
noncomputable def hiC(a b out:Array Keyed)(na nb g k l:Nat):StateT SortSt Sem (Rt (Nat×Nat×Array Keyed×Nat×Nat×Nat)):=do
 let y <-elem' a (na-1)
 if na-1==0 then pure (.done (Φ (a.extract 0 (na-1)++b.extract 0 nb++(out.push y).reverse),na-1,nb,out.push y,g,k,l))
 else if k<7&&l<7 then pure (.done (Ψ,na-1,nb,out.push y,g,k,l)) else pure (.yield (Ψ,na-1,nb,out.push y,g,k,l))
noncomputable def hiB(a b out:Array Keyed)(na nb g k l:Nat):StateT SortSt Sem (Rt (Nat×Nat×Array Keyed×Nat×Nat×Nat)):=do
 let y <-elem' b (nb-1)
 if nb-1==1 then pure (.done (Φ (b.extract 0 (nb-1)++a.extract 0 na++(out.push y).reverse),na,nb-1,out.push y,g,k,l))
 else do
  match <-za2 Γ (<-elem' a (na-1)) b 0 (nb-1) (nb-1-1) with
  |some m=>
   if nb-1-m>0 then
    if m==1 then pure (.done (Φ (b.extract 0 m++a.extract 0 na++(out.push y++(b.extract m (nb-1)).reverse).reverse),na,m,out.push y++(b.extract m (nb-1)).reverse,g,k,nb-1-m))
    else if m==0 then pure (.done (Φ (a.extract 0 na++b.extract 0 m++(out.push y++(b.extract m (nb-1)).reverse).reverse),na,m,out.push y++(b.extract m (nb-1)).reverse,g,k,nb-1-m))
    else hiC a b (out.push y++(b.extract m (nb-1)).reverse) na m g k (nb-1-m)
   else hiC a b (out.push y) na (nb-1) g k (nb-1-m)
  |_=>pure (.done (Φ (a.extract 0 na++b.extract 0 (nb-1)++(out.push y).reverse),na,nb-1,out.push y,g,k,l))
noncomputable def hiA(a b out:Array Keyed)(na nb g k l:Nat):StateT SortSt Sem (Rt (Nat×Nat×Array Keyed×Nat×Nat×Nat)):=do
 modify (setG · g)
 match <-za2 Δ (<-elem' b (nb-1)) a 0 na (na-1) with
 |some m=>
  if na-m>0 then
   if m==0 then pure (.done (Φ (a.extract 0 m++b.extract 0 nb++(out++(a.extract m na).reverse).reverse),m,nb,out++(a.extract m na).reverse,g,na-m,l))
   else hiB a b (out++(a.extract m na).reverse) m nb g (na-m) l
  else hiB a b out na nb g (na-m) l
 |_=>pure (.done (Φ (a.extract 0 na++b.extract 0 nb++out.reverse),na,nb,out,g,k,l))
noncomputable def hiL(a b:Array Keyed)(g:Nat)(out:Array Keyed)(i j k l:Nat):StateT SortSt Sem (Rt (Nat×Nat×Array Keyed×Nat×Nat)):=do
 match <-lt' (<-elem' b (j-1)) (<-elem' a (i-1)) with
 |some z=>
  if z then
   let y <-elem' a (i-1)
   if i-1==0 then pure (.done (Φ (a.extract 0 (i-1)++b.extract 0 j++(out.push y).reverse),i-1,j,out.push y,k+1,0))
   else if k+1≥g then pure (.done (Ψ,i-1,j,out.push y,k+1,0)) else pure (.yield (Ψ,i-1,j,out.push y,k+1,0))
  else
   let y <-elem' b (j-1)
   if j-1==1 then pure (.done (Φ (b.extract 0 (j-1)++a.extract 0 i++(out.push y).reverse),i,j-1,out.push y,0,l+1))
   else if l+1≥g then pure (.done (Ψ,i,j-1,out.push y,0,l+1)) else pure (.yield (Ψ,i,j-1,out.push y,0,l+1))
 |_=>pure (.done (Φ (a.extract 0 i++b.extract 0 j++out.reverse),i,j,out,k,l))
noncomputable def hiM(a b out:Array Keyed)(i j:Nat):StateT SortSt Sem (Array Keyed):=
 mg (a.size+b.size) (λg=>(i,j,out,g)) (λc=>(c.1,c.2.1,c.2.2.1,0,0)) (λc d=>(d.1,d.2.1,d.2.2.1,c.2.2.2)) (λc d=>(d.1,d.2.1,d.2.2.1,c.2.2.2+1,d.2.2.2.1,d.2.2.2.2))
  (λe=>(e.1,e.2.1,e.2.2.1,e.2.2.2.1)) (λe=>(e.1,e.2.1,e.2.2.1,e.2.2.2.1+1)) (λe=>e.2.2.2.1+1) (λc d=>hiL a b c.2.2.2 d.2.2.1 d.1 d.2.1 d.2.2.2.1 d.2.2.2.2)
  λe=>if e.2.2.2.1>1 then hiA a b e.2.2.1 e.1 e.2.1 (e.2.2.2.1-1) e.2.2.2.2.1 e.2.2.2.2.2 else hiA a b e.2.2.1 e.1 e.2.1 e.2.2.2.1 e.2.2.2.2.1 e.2.2.2.2.2
theorem zh7(a b:Array Keyed):zc6 a b=(do
 rule "list.sort.merge-hi"
 let y <-elem' a (a.size-1)
 if a.size-1==0 then return a.extract 0 (a.size-1)++b.extract 0 b.size ++ #[y].reverse
 if b.size==1 then return b.extract 0 b.size++a.extract 0 (a.size-1) ++ #[y].reverse
 hiM a b #[y] (a.size-1) b.size):=by
 rw[zgz];dsimp only;refine congrArg (bind _) (funext λ_=>congrArg (bind _) (funext λy=>?_));refine ite_congr rfl (λ_=>rfl) λ_=>ite_congr rfl (λ_=>rfl) λ_=>?_;refine congrArg (bind _) (funext λg=>?_);congr 1;congr 1;funext x c;congr 1;funext d;cases d.1 with|some r=>rfl| none=>refine congrArg (bind _) (funext λ_=>?_);congr 1;funext e;cases e.1<;>rfl
 . funext c;cases c.1<;>rfl
section
variable{prog:Τ}{w:ϐ}{A:ϑ}{E:Λ->Η->Prop}{s:Η}{st₀:SortSt}
noncomputable def SG(st₀ st:SortSt):Prop:=∃g,st=setG st₀ g
noncomputable def Tn{β:Type}(st₀:SortSt)(Go:Array Keyed->Prop)(J:β->Prop)(r:Rt β)(st:SortSt):Prop:=SG st₀ st/\match r with|.done (Φ o,_)=>Go o|.done (Ψ,d)=>J d|.yield (Φ _,_)=>False|.yield (Ψ,d)=>J d
noncomputable def Ln{β:Type}(st₀:SortSt)(Go:Array Keyed->Prop)(J:β->Prop)(r:Option (Array Keyed)×β)(st:SortSt):Prop:=SG st₀ st/\match r with|(Φ o,_)=>Go o|(Ψ,d)=>J d
theorem zjJ{β:Type}{t k:Nat}{Go:Array Keyed->Prop}{J:Nat->β->Prop}{L:β->StateT SortSt Sem (Rt β)}{d:β}{st:SortSt}(h1:1<=t)(mono:∀i j d,i<=j->J j d->J i d)
  (hL:∀i d st,SG st₀ st->J i d->wpS (model prog w) A E s (L d) (Tn st₀ Go (J (i+1))) st) (hst:SG st₀ st) (h:J k d) :
  wpS (model prog w) A E s (forIn [0:t] ((Ψ,d):Option (Array Keyed)×β) λ_ d=>L d.2) (Ln st₀ Go (J (k+1))) st:=by
 refine Ϧ (I:=λx c st=>SG st₀ st/\∃d,c=(Ψ,d)/\J (k+x) d) ?_ ?_ ⟨hst,d,rfl,h⟩
 . rintro x c st _ hx ⟨q,d,rfl,hd⟩;refine ϫ (hL _ d st q hd) ?_;rintro r st' ⟨q',h'⟩
   match r,h' with|.done (Φ o,_),h'=>exact⟨q',h'⟩|.done (Ψ,d),h'=>exact⟨q',mono _ _ _ (by lia) h'⟩|.yield (Ψ,d),h'=>exact⟨q',d,rfl,h'⟩
 rintro c st ⟨q,d,rfl,hd⟩;exact⟨q,mono _ _ _ (by lia) hd⟩
theorem SG.set{st:SortSt}(h:SG st₀ st)(g:Nat):SG st₀ (setG st g):=by obtain⟨_,rfl⟩:=h;exact⟨g,rfl⟩
theorem zqo{β γ δ:Type}{t:Nat}{f0:Nat->γ}{f1:γ->β}{f2:γ->β->γ}{f3:γ->β->δ}{f4 f5:δ->γ}{gg:δ->Nat}{L:γ->β->StateT SortSt Sem (Rt β)}{G:δ->StateT SortSt Sem (Rt δ)}{Q:Array Keyed->SortSt->Prop}{Go:Array Keyed->Prop}(B:Nat->β->Prop)(C:Nat->γ->Prop)(D:Nat->δ->Prop)
  (b1:∀i j d,i<=j->B j d->B i d) (d1:∀i j d,i<=j->D j d->D i d) (h1:∀k c,C k c->B k (f1 c)) (h3:∀k c d,B k d->D k (f3 c d)) (h5:∀k e,D k e->C k (f5 e)) (ht:∀k c,C k c->k<t)
  (hL:∀c i d st,SG st₀ st->B i d->wpS (model prog w) A E s (L c d) (Tn st₀ Go (B (i+1))) st) (hG:∀i d st,SG st₀ st->D i d->wpS (model prog w) A E s (G d) (Tn st₀ Go (D (i+1))) st)
  (h0:∀g,C 0 (f0 g)) (hQ:∀r st,SG st₀ st->Go r->Q r st):wpS (model prog w) A E s (mg t f0 f1 f2 f3 f4 f5 gg L G) Q st₀:=by
 refine Μ (wpS_get ?_);have t1:=ht 0 _ (h0 0);refine Μ (ϫ (Ϧ (I:=λx c st=>SG st₀ st/\∃d,c=(Ψ,d)/\C x d) (Q:=λc st=>SG st₀ st/\∃o d,c=(Φ o,d)/\Go o) ?_ ?_ ⟨⟨_,rfl⟩,_,rfl,h0 _⟩) ?_);rintro x c st _ hx ⟨q,c,rfl,hc⟩;refine Μ (ϫ (zjJ t1 b1 (hL c) q (h1 _ _ hc)) ?_);rintro⟨r,d⟩ st' ⟨q',hd⟩;cases r with|some o=>exact Ο ⟨q',o,_,rfl,hd⟩| none=>refine Μ (wpS_lift (Ϭ ⟨rfl,?_⟩));refine Μ (ϫ (zjJ t1 d1 hG q' (h3 _ _ _ hd)) ?_);rintro⟨r,e⟩ st' ⟨q',he⟩;cases r with|some o=>exact Ο ⟨q',o,_,rfl,he⟩|none=>exact Μ (wpS_modify (Ο ⟨q'.set _,_,rfl,h5 _ _ (d1 _ _ _ (le_succ _) he)⟩))
 rintro c st ⟨q,d,rfl,hd⟩;have:=ht _ _ hd;lia;rintro c st ⟨q,o,d,rfl,ho⟩;exact Ο (hQ o st q ho)
end
section
variable{rk:Keyed->Int}{T out ys l:List Keyed}{i k:Nat}
theorem MI.one(h:MI rk T out (l.drop i) ys)(hi:i<l.length)(hu:∀y∈ys,rk l[i]<=rk y):MI rk T (out++[l[i]]) (l.drop (i+1)) ys:=by rw[zox hi]at h;exact MI.push h λu q=>by rw[mem_singleton.mp q];exact hu
theorem MI.seg(h:MI rk T out (l.drop i) ys)(k:Nat)(hu:∀u∈(l.drop i).take k,∀y∈ys,rk u<=rk y):MI rk T (out++(l.drop i).take k) (l.drop (i+k)) ys:=by rw[zkY l i k]at h;exact MI.push h hu
end
section
variable{prog:Τ}{w:ϐ}{A:ϑ}{E:Λ->Η->Prop}{s:Η}{κ:SortKind}{rk:Keyed->Int}{T:List Keyed}{a b out:Array Keyed}{ia ib:Nat}{st₀ st:SortSt}
structure Two(prog:Τ)(w:ϐ)(A:ϑ)(s:Η)(κ:SortKind)(rk:Keyed->Int)(T:List Keyed)(a b:Array Keyed)(st₀:SortSt):Prop where
 hc:Looks prog w A s κ rk T
 hk:kindOf st₀=κ
 ta:∀i (h:i<a.size),a[i]∈T
 tb:∀i (h:i<b.size),b[i]∈T
 sa:a.toList.Pairwise (Le rk)
 sb:b.toList.Pairwise (Le rk)
 na:0<a.size
 nb:0<b.size
 h1:∀i (h:i<a.size),rk b[0]<rk a[i]
 h2:∀i (h:i<b.size),rk b[i]<rk a[a.size-1]
theorem Two.kind(t:Two prog w A s κ rk T a b st₀)(h:SG st₀ st):kindOf st=κ:=by obtain⟨_,rfl⟩:=h;exact t.hk
theorem Two.la(t:Two prog w A s κ rk T a b st₀){i j:Nat}(hj:j<a.size)(hi:i<=j):rk a[i]<=rk a[j]:=zj7 (l:=a.toList) t.sa (by simpa using hj) hi
theorem Two.lb(t:Two prog w A s κ rk T a b st₀){i j:Nat}(hj:j<b.size)(hi:i<=j):rk b[i]<=rk b[j]:=zj7 (l:=b.toList) t.sb (by simpa using hj) hi
noncomputable abbrev LoM(rk:Keyed->Int)(a b out:Array Keyed)(ia ib:Nat):Prop:=MI rk (a.toList++b.toList) out.toList (a.toList.drop ia) (b.toList.drop ib)
theorem LoM.done(m:LoM rk a b out ia ib)(e:ib=b.size\/ia=a.size):InOrd rk (a.toList++b.toList) (out++a.extract ia a.size++b.extract ib b.size).toList:=by rw[ϗ,ϗ,zc9,zc9];rcases e with rfl|rfl;have z:b.toList.drop b.size=[]:=List.drop_eq_nil_of_le (by simp);rw[LoM,z]at m;rw[z,append_nil];exact m.fin;have z:a.toList.drop a.size=[]:=List.drop_eq_nil_of_le (by simp);rw[LoM,z]at m;rw[z,append_nil];exact m.swap.fin
theorem LoM.last(t:Two prog w A s κ rk T a b st₀)(m:LoM rk a b out ia ib)(e:ia+1=a.size):InOrd rk (a.toList++b.toList) (out++b.extract ib b.size++a.extract ia a.size).toList:=by
 rw[ϗ,ϗ,zc9,zc9];refine MI.last m λu hu y hy=>?_;obtain⟨j,hj,h1,rfl⟩:=zb0 hu;obtain⟨i,hi,h2,rfl⟩:=zb0 hy;have:i=a.size-1:=by simp at hi;omega
 subst this;have:=t.h2 j (by simpa using hj);simp only[Ϡ];omega
theorem LoM.pa(t:Two prog w A s κ rk T a b st₀)(m:LoM rk a b out ia ib)(ha:ia<a.size)(h:∀j (hj:j<b.size),ib<=j->rk a[ia]<=rk b[j]):LoM rk a b (out.push a[ia]) (ia+1) ib:=by rw[LoM,Array.toList_push];refine MI.one m (by simpa using ha) λy hy=>?_;obtain⟨j,hj,h1,rfl⟩:=zb0 hy;exact h j (by simpa using hj) h1
theorem LoM.pb(t:Two prog w A s κ rk T a b st₀)(m:LoM rk a b out ia ib)(hb:ib<b.size)(h:∀j (hj:j<a.size),ia<=j->rk b[ib]<=rk a[j]):LoM rk a b (out.push b[ib]) ia (ib+1):=by rw[LoM,Array.toList_push];refine(MI.one m.swap (by simpa using hb) λy hy=>?_).swap;obtain⟨j,hj,h1,rfl⟩:=zb0 hy;exact h j (by simpa using hj) h1
theorem LoM.qa(m:LoM rk a b out ia ib){k:Nat}(h:∀i (hi:ia+i<a.size) j (hj:j<b.size),i<k->ib<=j->rk a[ia+i]<=rk b[j]):LoM rk a b (out++a.extract ia (ia+k)) (ia+k) ib:=by rw[LoM,ϗ,zkf];refine MI.seg m k λu hu y hy=>?_;obtain⟨j,hj,h1,rfl⟩:=zb0 hy;obtain⟨i,hi,h2,rfl⟩:=zjy hu;exact h i (by simpa using hi) j (by simpa using hj) h2 h1
theorem LoM.qb(m:LoM rk a b out ia ib){k:Nat}(h:∀i (hi:ib+i<b.size) j (hj:j<a.size),i<k->ia<=j->rk b[ib+i]<=rk a[j]):LoM rk a b (out++b.extract ib (ib+k)) ia (ib+k):=by rw[LoM,ϗ,zkf];refine(MI.seg m.swap k λu hu y hy=>?_).swap;obtain⟨j,hj,h1,rfl⟩:=zb0 hy;obtain⟨i,hi,h2,rfl⟩:=zjy hu;exact h i (by simpa using hi) j (by simpa using hj) h2 h1
structure LoI(rk:Keyed->Int)(a b:Array Keyed)(k:Nat)(out:Array Keyed)(ia ib:Nat):Prop where
 m:LoM rk a b out ia ib
 i:ia+1<a.size
 j:ib<b.size
 k:k<ia+ib
theorem zqy{k g x y:Nat}(t:Two prog w A s κ rk T a b st₀)(h:LoI rk a b k out ia ib)(hs:SG st₀ st):wpS (model prog w) A E s (loL a b g out ia ib x y) (Tn st₀ (λr=>InOrd rk (a.toList++b.toList) r.toList) λd=>LoI rk a b (k+1) d.1 d.2.1 d.2.2.1) st:=by
 have hi:=h.i;have hj:=h.j;have hk:=h.k;have ha:ia<a.size:=by lia
 unfold loL;refine Μ (zat hj (Μ (zat ha (Μ (zjA t.hc (t.tb _ _) (t.ta _ _) (t.kind hs) ?_)))));dsimp only;by_cases c:rk b[ib]<rk a[ia];rw[decide_eq_true c,if_pos rfl];have m:=h.m.pb t hj λj hj h=>by have:=t.la hj h;lia
 refine Μ (zat hj ?_);by_cases e:ib+1=b.size;rw[if_pos (by simpa using e)];exact Ο ⟨hs,m.done (.inl e)⟩
 . rw[if_neg (by simpa using e)];have n:LoI rk a b (k+1) _ _ _:=⟨m,hi,by lia,by lia⟩;split<;>exact Ο ⟨hs,n⟩
 rw[decide_eq_false c,if_neg Ζ];have m:=h.m.pa t ha λj hj h=>by have:=t.lb hj h;lia
 refine Μ (zat ha ?_);by_cases e:ia+1+1=a.size;rw[if_pos (by simpa using e)];exact Ο ⟨hs,m.last t e⟩
 . rw[if_neg (by simpa using e)];have n:LoI rk a b (k+1) _ _ _:=⟨m,by lia,hj,by lia⟩;split<;>exact Ο ⟨hs,n⟩
theorem zmu{k g x y:Nat}(t:Two prog w A s κ rk T a b st₀)(h:LoI rk a b k out ia ib)(hc:∀j (hj:j<b.size),ib<=j->rk (a[ia]'(Nat.lt_of_succ_lt h.i))<=rk b[j])(hs:SG st₀ st):wpS (model prog w) A E s (loC a b out ia ib g x y) (Tn st₀ (λr=>InOrd rk (a.toList++b.toList) r.toList) λd=>LoI rk a b (k+1) d.1 d.2.1 d.2.2.1) st:=by
 have hi:=h.i;have hj:=h.j;have hk:=h.k;have ha:ia<a.size:=by lia
 unfold loC;have m:=h.m.pa t ha hc;refine Μ (zat ha ?_);by_cases e:ia+1+1=a.size;rw[if_pos (by simpa using e)];exact Ο ⟨hs,m.last t e⟩
 . rw[if_neg (by simpa using e)];have n:LoI rk a b (k+1) _ _ _:=⟨m,by lia,hj,by lia⟩;split<;>exact Ο ⟨hs,n⟩
theorem Tn.up{β:Type}{Go:Array Keyed->Prop}{J J':β->Prop}{r:Rt β}(h:Tn st₀ Go J r st)(u:∀d,J d->J' d):Tn st₀ Go J' r st:=by
 obtain⟨q,h⟩:=h;refine⟨q,?_⟩
 match r,h with|.done (Φ o,_),h=>exact h|.done (Ψ,d),h=>exact u _ h|.yield (Ψ,d),h=>exact u _ h
theorem LoI.up{k l:Nat}(h:LoI rk a b l out ia ib)(e:k<=l):LoI rk a b k out ia ib:=⟨h.m,h.i,h.j,Nat.lt_of_le_of_lt e h.k⟩
theorem zmv{k g x y:Nat}(t:Two prog w A s κ rk T a b st₀)(h:LoI rk a b k out ia ib)(hc:∀j (hj:j<a.size),ia<=j->rk (b[ib]'h.j)<=rk a[j])(hs:SG st₀ st):wpS (model prog w) A E s (loB a b out ia ib g x y) (Tn st₀ (λr=>InOrd rk (a.toList++b.toList) r.toList) λd=>LoI rk a b (k+1) d.1 d.2.1 d.2.2.1) st:=by
 have hi:=h.i;have hj:=h.j;have hk:=h.k;have ha:ia<a.size:=by lia
 unfold loB;have m:=h.m.pb t hj hc;refine Μ (zat hj ?_);by_cases e:ib+1=b.size;rw[if_pos (by simpa using e)];exact Ο ⟨hs,m.done (.inl e)⟩;rw[if_neg (by simpa using e)];refine Μ (zat ha (Μ (zbr (T:=T) (λi=>decide (∃h:ib+1+i<b.size,rk b[ib+1+i]<rk a[ia])) t.hc (t.kind hs) (t.ta _ _) t.tb (by lia) (by lia) (λi h _=>?_) (λi j hij hj q=>?_) λm' c=>?_)));simp[h];have q:=of_decide_eq_true q;obtain⟨q1,q2⟩:=q;refine decide_eq_true ⟨by lia,?_⟩;have:=t.lb q1 (show ib+1+i<=ib+1+j by lia);lia;dsimp only;have le:=c.le;have yes:∀i (h:ib+1+i<b.size),i<m'->rk b[ib+1+i]<rk a[ia]:=λi _ hi=>(of_decide_eq_true (c.yes i hi)).2;have no:∀j (hj:j<b.size),ib+1+m'<=j->rk a[ia]<=rk b[j]:=λj hj q=>by
  have:=of_decide_eq_false (c.no (j-(ib+1)) (by lia) (by lia));have e:ib+1+(j-(ib+1))=j:=by lia
  simp only[e]at this;exact Int.not_lt.mp λz=>this ⟨hj,z⟩
 by_cases c0:m'>0;rw[if_pos c0];have m2:=m.qb (k:=m') λi h1 j h2 h3 h4=>by have:=yes i h1 h3;have:=t.la h2 h4;lia
 by_cases e2:ib+1+m'=b.size;rw[if_pos (by simpa using e2)];exact Ο ⟨hs,m2.done (.inl e2)⟩;rw[if_neg (by simpa using e2)];exact ϫ (zmu t ⟨m2,hi,by lia,by lia⟩ no hs) λ_ _ z=>z.up λ_ z=>z.up (le_refl _);rw[if_neg c0];have:m'=0:=by lia
 subst this;exact ϫ (zmu t ⟨m,hi,by lia,by lia⟩ no hs) λ_ _ z=>z.up λ_ z=>z.up (le_refl _)
theorem zjQ(x y:Int):decide (x<=y) = !decide (y<x):=by rw[<-decide_not];exact decide_eq_decide.mpr Int.not_lt.symm
theorem zqz{k g x y:Nat}(t:Two prog w A s κ rk T a b st₀)(h:LoI rk a b k out ia ib)(hs:SG st₀ st):wpS (model prog w) A E s (loA a b out ia ib g x y) (Tn st₀ (λr=>InOrd rk (a.toList++b.toList) r.toList) λd=>LoI rk a b (k+1) d.1 d.2.1 d.2.2.1) st:=by
 have hi:=h.i;have hj:=h.j;have hk:=h.k;have ha:ia<a.size:=by lia
 unfold loA;refine Μ (wpS_modify ?_);replace hs:=hs.set g;refine Μ (zat hj (Μ (zbr (T:=T) (λi=>decide (∃h:ia+i<a.size,rk a[ia+i]<=rk b[ib])) t.hc (t.kind hs) (t.tb _ _) t.ta (by lia) (by lia) (λi h _=>?_) (λi j hij hj q=>?_) λm' c=>?_)));simp[h,zjQ];have q:=of_decide_eq_true q;obtain⟨q1,q2⟩:=q;refine decide_eq_true ⟨by lia,?_⟩;have:=t.la q1 (show ia+i<=ia+j by lia);lia;dsimp only;have le:=c.le;have yes:∀i (h:ia+i<a.size),i<m'->rk a[ia+i]<=rk b[ib]:=λi _ hi=>(of_decide_eq_true (c.yes i hi)).2;have no:∀j (hj:j<a.size),ia+m'<=j->rk b[ib]<=rk a[j]:=λj hj q=>by
  have:=of_decide_eq_false (c.no (j-ia) (by lia) (by lia));have e:ia+(j-ia)=j:=by lia
  simp only[e]at this;exact Int.le_of_lt (Int.not_le.mp λz=>this ⟨hj,z⟩)
 by_cases c0:m'>0;rw[if_pos c0];have m2:=h.m.qa (k:=m') λi h1 j h2 h3 h4=>by have:=yes i h1 h3;have:=t.lb h2 h4;lia
 by_cases e2:ia+m'+1=a.size;rw[if_pos (by simpa using e2)];exact Ο ⟨hs,m2.last t e2⟩;rw[if_neg (by simpa using e2)];by_cases e3:ia+m'=a.size;rw[if_pos (by simpa using e3)];exact Ο ⟨hs,m2.done (.inr e3)⟩;rw[if_neg (by simpa using e3)];exact zmv t ⟨m2,by lia,hj,by lia⟩ no hs;rw[if_neg c0];have:m'=0:=by lia
 subst this;exact zmv t h no hs
theorem zh4{Q:Array Keyed->SortSt->Prop}(t:Two prog w A s κ rk T a b st₀)(h:∀r st,SG st₀ st->InOrd rk (a.toList++b.toList) r.toList->Q r st):wpS (model prog w) A E s (zc5 a b) Q st₀:=by
 rw[zh5];have nb:=t.nb;have na:=t.na;have m:LoM rk a b #[b[0]] 0 1:=by have:=LoM.pb (out:=#[]) (ia:=0) (ib:=0) t ⟨by simp,.nil,t.sa,t.sb,by simp⟩ nb λj hj _=>Int.le_of_lt (t.h1 j hj);simpa using this
 refine Μ (wpS_lift (Ϭ ⟨rfl,Μ (zat nb ?_)⟩));by_cases e:1=b.size;rw[if_pos (by simpa using e)];exact Ο (h _ _ ⟨_,rfl⟩ (m.done (.inl e)));rw[if_neg (by simpa using e)];by_cases e2:0+1=a.size;rw[if_pos (by simpa using e2)];exact Ο (h _ _ ⟨_,rfl⟩ (m.last t e2))
 . rw[if_neg (by simpa using e2)];refine zqo (st₀:=st₀) (Go:=λr=>InOrd rk (a.toList++b.toList) r.toList) (λk d=>LoI rk a b k d.1 d.2.1 d.2.2.1) (λk d=>LoI rk a b k d.1 d.2.1 d.2.2.1) (λk d=>LoI rk a b k d.1 d.2.1 d.2.2.1)
    (λ_ _ _ q z=>z.up q) (λ_ _ _ q z=>z.up q) (λ_ _ z=>z) (λ_ _ _ z=>z) (λ_ _ z=>z) (λk c z=>by have:=z.i;have:=z.j;have:=z.k;lia)
    (λc i d st hs z=>zqy t z hs) (λi d st hs z=>?_) (λg=>(⟨m,by lia,by lia,by lia⟩:LoI rk a b 0 #[b[0]] 0 1)) h
   split<;>exact zqz t z hs
end
section
variable{rk:Keyed->Int}{T out ys l:List Keyed}{n m:Nat}
theorem MI.oneR(h:MI rk T out (l.take n).reverse ys)(h0:0<n)(hn:n-1<l.length)(hu:∀y∈ys,rk l[n-1]<=rk y):MI rk T (out++[l[n-1]]) (l.take (n-1)).reverse ys:=by
 have e:l.take n=l.take (n-1)++[l[n-1]]:=by obtain⟨k,rfl⟩:∃k,n=k+1:=⟨n-1,by lia⟩;exact(List.take_append_getElem hn).symm
 rw[e,List.reverse_append]at h;exact MI.push (us:=[l[n-1]]) h λu q=>by rw[mem_singleton.mp q];exact hu
theorem MI.segR(h:MI rk T out (l.take n).reverse ys)(hm:m<=n)(hu:∀u∈(l.take n).drop m,∀y∈ys,rk u<=rk y):MI rk T (out++((l.take n).drop m).reverse) (l.take m).reverse ys:=by
 have e:l.take n=l.take m++(l.take n).drop m:=by have:=List.take_append_drop m (l.take n);rw[List.take_take,Nat.min_eq_left hm]at this;exact this.symm
 have h':=h;rw[e,List.reverse_append]at h';exact MI.push h' λu q=>hu u (List.mem_reverse.mp q)
theorem zbp{y:Keyed}(h:y∈(l.take n).reverse):∃j,∃hj:j<l.length,j<n/\y=l[j]:=by obtain⟨j,hj,e⟩:=ϓ.mp (List.mem_reverse.mp h);rw[List.getElem_take]at e;rw[length_take]at hj;exact⟨j,by lia,by lia,e.symm⟩
theorem zhd{y:Keyed}(h:y∈(l.take n).drop m):∃j,∃hj:j<l.length,m<=j/\j<n/\y=l[j]:=by obtain⟨j,hj,e⟩:=ϓ.mp h;rw[List.getElem_drop,List.getElem_take]at e;rw[List.length_drop,length_take]at hj;exact⟨m+j,by omega,by omega,by omega,e.symm⟩
theorem zc8(a:Array Keyed)(n:Nat):(a.extract 0 n).toList=a.toList.take n:=by rw[Array.toList_extract];rfl
theorem ze1(a:Array Keyed)(m n:Nat):(a.extract m n).toList=(a.toList.take n).drop m:=by rw[Array.toList_extract,List.drop_take]
noncomputable def ng(rk:Keyed->Int)(x:Keyed):Int:=-rk x
theorem InOrd.rev(h:InOrd (ng rk) T l):InOrd rk T l.reverse:=⟨(List.reverse_perm _).trans h.1,List.pairwise_reverse.mpr (h.2.imp λ{x y} (q:-rk x<=-rk y)=>(by unfold Le;lia))⟩
end
section
variable{prog:Τ}{w:ϐ}{A:ϑ}{E:Λ->Η->Prop}{s:Η}{κ:SortKind}{rk:Keyed->Int}{T:List Keyed}{a b out:Array Keyed}{na nb:Nat}{st₀ st:SortSt}
noncomputable abbrev HiM(rk:Keyed->Int)(a b out:Array Keyed)(na nb:Nat):Prop:=MI (ng rk) (a.toList++b.toList) out.toList (a.toList.take na).reverse (b.toList.take nb).reverse
theorem HiM.done(m:HiM rk a b out na nb)(e:na=0\/nb=0):InOrd rk (a.toList++b.toList) (a.extract 0 na++b.extract 0 nb++out.reverse).toList:=by rcases e with rfl|rfl;have:=(MI.fin m.swap).rev;simpa using this;have:=(MI.fin m).rev;simpa using this
theorem HiM.first(t:Two prog w A s κ rk T a b st₀)(m:HiM rk a b out na nb)(e:nb=1):InOrd rk (a.toList++b.toList) (b.extract 0 nb++a.extract 0 na++out.reverse).toList:=by
 rw[ϗ,ϗ,zc8,zc8,Array.toList_reverse];have:=(MI.last m.swap λu hu y hy=>by
  obtain⟨i,hi,h1,rfl⟩:=zbp hu;obtain⟨j,hj,h2,rfl⟩:=zbp hy;have:j=0:=by lia
  subst this;have:=t.h1 i (by simpa using hi);simp only[ng,Ϡ];lia).rev
 simpa using this
theorem HiM.pa(m:HiM rk a b out na nb)(h0:0<na)(ha:na-1<a.size)(h:∀j (hj:j<b.size),j<nb->rk b[j]<=rk a[na-1]):HiM rk a b (out.push a[na-1]) (na-1) nb:=by rw[HiM,Array.toList_push];refine MI.oneR (l:=a.toList) m h0 (by simpa using ha) λy hy=>?_;obtain⟨j,hj,h1,rfl⟩:=zbp hy;have:=h j (by simpa using hj) h1;simp only[ng,Ϡ];omega
theorem HiM.pb(m:HiM rk a b out na nb)(h0:0<nb)(hb:nb-1<b.size)(h:∀j (hj:j<a.size),j<na->rk a[j]<=rk b[nb-1]):HiM rk a b (out.push b[nb-1]) na (nb-1):=by rw[HiM,Array.toList_push];refine(MI.oneR (l:=b.toList) m.swap h0 (by simpa using hb) λy hy=>?_).swap;obtain⟨j,hj,h1,rfl⟩:=zbp hy;have:=h j (by simpa using hj) h1;simp only[ng,Ϡ];omega
theorem HiM.qa(m:HiM rk a b out na nb){k:Nat}(hk:k<=na)(h:∀i (hi:i<a.size) j (hj:j<b.size),k<=i->i<na->j<nb->rk b[j]<=rk a[i]):HiM rk a b (out++(a.extract k na).reverse) k nb:=by rw[HiM,ϗ,Array.toList_reverse,ze1];refine MI.segR (l:=a.toList) m hk λu hu y hy=>?_;obtain⟨j,hj,h1,rfl⟩:=zbp hy;obtain⟨i,hi,h2,h3,rfl⟩:=zhd hu;have:=h i (by simpa using hi) j (by simpa using hj) h2 h3 h1;simp only[ng,Ϡ];lia
theorem HiM.qb(m:HiM rk a b out na nb){k:Nat}(hk:k<=nb)(h:∀i (hi:i<b.size) j (hj:j<a.size),k<=i->i<nb->j<na->rk a[j]<=rk b[i]):HiM rk a b (out++(b.extract k nb).reverse) na k:=by rw[HiM,ϗ,Array.toList_reverse,ze1];refine(MI.segR (l:=b.toList) m.swap hk λu hu y hy=>?_).swap;obtain⟨j,hj,h1,rfl⟩:=zbp hy;obtain⟨i,hi,h2,h3,rfl⟩:=zhd hu;have:=h i (by simpa using hi) j (by simpa using hj) h2 h3 h1;simp only[ng,Ϡ];lia
structure HiI(rk:Keyed->Int)(a b:Array Keyed)(k:Nat)(out:Array Keyed)(na nb:Nat):Prop where
 m:HiM rk a b out na nb
 i:0<na
 i':na<=a.size
 j:1<nb
 j':nb<=b.size
 k:k+na+nb<a.size+b.size
theorem HiI.up{k l:Nat}(h:HiI rk a b l out na nb)(e:k<=l):HiI rk a b k out na nb:=⟨h.m,h.i,h.i',h.j,h.j',by have:=h.k;lia⟩
theorem zqQ{k g x y:Nat}(t:Two prog w A s κ rk T a b st₀)(h:HiI rk a b k out na nb)(hs:SG st₀ st):wpS (model prog w) A E s (hiL a b g out na nb x y) (Tn st₀ (λr=>InOrd rk (a.toList++b.toList) r.toList) λd=>HiI rk a b (k+1) d.2.2.1 d.1 d.2.1) st:=by
 obtain⟨m0,hi,hi',hj,hj',hk⟩:=h;have ha:na-1<a.size:=by lia
 have hb:nb-1<b.size:=by lia
 refine Μ (zat hb (Μ (zat ha (Μ (zjA t.hc (t.tb _ _) (t.ta _ _) (t.kind hs) ?_)))));dsimp only;by_cases c:rk b[nb-1]<rk a[na-1];rw[decide_eq_true c];have m:=m0.pa hi ha λj hj h=>by have:=t.lb hb (show j<=nb-1 by lia);lia
 refine Μ (zat ha ?_);by_cases e:na-1=0;rw[if_pos (by simpa using e)];exact Ο ⟨hs,m.done (.inl e)⟩
 . rw[if_neg (by simpa using e)];have n:HiI rk a b (k+1) _ _ _:=⟨m,by lia,by lia,hj,hj',by lia⟩;split<;>exact Ο ⟨hs,n⟩
 rw[decide_eq_false c];have m:=m0.pb (by lia) hb λj hj h=>by have:=t.la ha (show j<=na-1 by lia);lia
 refine Μ (zat hb ?_);by_cases e:nb-1=1;rw[if_pos (by simpa using e)];exact Ο ⟨hs,m.first t e⟩
 . rw[if_neg (by simpa using e)];have n:HiI rk a b (k+1) _ _ _:=⟨m,hi,hi',by lia,by lia,by lia⟩;split<;>exact Ο ⟨hs,n⟩
theorem zmA{k g x y:Nat}(t:Two prog w A s κ rk T a b st₀)(h:HiI rk a b k out na nb)(hc:∀j (hj:j<b.size),j<nb->rk b[j]<=rk (a[na-1]'(by have:=h.i;have:=h.i';lia)))(hs:SG st₀ st):wpS (model prog w) A E s (hiC a b out na nb g x y) (Tn st₀ (λr=>InOrd rk (a.toList++b.toList) r.toList) λd=>HiI rk a b (k+1) d.2.2.1 d.1 d.2.1) st:=by
 obtain⟨m0,hi,hi',hj,hj',hk⟩:=h;have ha:na-1<a.size:=by lia
 have m:=m0.pa hi ha hc;refine Μ (zat ha ?_);by_cases e:na-1=0;rw[if_pos (by simpa using e)];exact Ο ⟨hs,m.done (.inl e)⟩
 . rw[if_neg (by simpa using e)];have n:HiI rk a b (k+1) _ _ _:=⟨m,by lia,by lia,hj,hj',by lia⟩;split<;>exact Ο ⟨hs,n⟩
theorem zmB{k g x y:Nat}(t:Two prog w A s κ rk T a b st₀)(h:HiI rk a b k out na nb)(hc:∀j (hj:j<a.size),j<na->rk a[j]<=rk (b[nb-1]'(by have:=h.j;have:=h.j';lia)))(hs:SG st₀ st):wpS (model prog w) A E s (hiB a b out na nb g x y) (Tn st₀ (λr=>InOrd rk (a.toList++b.toList) r.toList) λd=>HiI rk a b (k+1) d.2.2.1 d.1 d.2.1) st:=by
 obtain⟨m0,hi,hi',hj,hj',hk⟩:=h;have ha:na-1<a.size:=by lia
 have hb:nb-1<b.size:=by lia
 have m:=m0.pb (by lia) hb hc;refine Μ (zat hb ?_);by_cases e:nb-1=1;rw[if_pos (by simpa using e)];exact Ο ⟨hs,m.first t e⟩;rw[if_neg (by simpa using e)];refine Μ (zat ha (Μ (zbr (λi=>decide (∃h:i<b.size,rk b[i]<rk a[na-1])) t.hc (t.kind hs) (t.ta _ _) t.tb (by lia) (by lia) (λi h _=>?_) (λi j hij hj q=>?_) λm' c=>?_)));simp only[zero_add]at h⊢;simp[h];have q:=of_decide_eq_true q;obtain⟨q1,q2⟩:=q;refine decide_eq_true ⟨by lia,?_⟩;have:=t.lb q1 hij;lia;dsimp only;have le:=c.le;have yes:∀i (h:i<b.size),i<m'->rk b[i]<rk a[na-1]:=λi _ hi=>(of_decide_eq_true (c.yes i hi)).2;have no:∀j (hj:j<b.size),m'<=j->j<nb-1->rk a[na-1]<=rk b[j]:=λj hj q q'=>by have:=of_decide_eq_false (c.no j q q');exact Int.not_lt.mp λz=>this ⟨hj,z⟩
 by_cases c0:nb-1-m'>0;rw[if_pos c0];have m2:=m.qb le λi h1 j h2 h3 h4 h5=>by have:=no i h1 h3 h4;have:=t.la ha (show j<=na-1 by lia);lia
 by_cases e2:m'=1;rw[if_pos (by simpa using e2)];exact Ο ⟨hs,m2.first t e2⟩;rw[if_neg (by simpa using e2)];by_cases e3:m'=0;rw[if_pos (by simpa using e3)];exact Ο ⟨hs,m2.done (.inr e3)⟩;rw[if_neg (by simpa using e3)];exact zmA t ⟨m2,hi,hi',by lia,by lia,by lia⟩ (λj hj q=>Int.le_of_lt (yes j hj q)) hs;rw[if_neg c0];have:m'=nb-1:=by lia
 subst this;exact zmA t ⟨m,hi,hi',by lia,by lia,by lia⟩ (λj hj q=>Int.le_of_lt (yes j hj q)) hs
theorem zqR{k g x y:Nat}(t:Two prog w A s κ rk T a b st₀)(h:HiI rk a b k out na nb)(hs:SG st₀ st):wpS (model prog w) A E s (hiA a b out na nb g x y) (Tn st₀ (λr=>InOrd rk (a.toList++b.toList) r.toList) λd=>HiI rk a b (k+1) d.2.2.1 d.1 d.2.1) st:=by
 obtain⟨m0,hi,hi',hj,hj',hk⟩:=id h;have ha:na-1<a.size:=by lia
 have hb:nb-1<b.size:=by lia
 refine Μ (wpS_modify ?_);replace hs:=hs.set g;refine Μ (zat hb (Μ (zbr (λi=>decide (∃h:i<a.size,rk a[i]<=rk b[nb-1])) t.hc (t.kind hs) (t.tb _ _) t.ta (by lia) (by lia) (λi h _=>?_) (λi j hij hj q=>?_) λm' c=>?_)));simp only[zero_add]at h⊢;simp[h,zjQ];have q:=of_decide_eq_true q;obtain⟨q1,q2⟩:=q;refine decide_eq_true ⟨by lia,?_⟩;have:=t.la q1 hij;lia;dsimp only;have le:=c.le;have yes:∀i (h:i<a.size),i<m'->rk a[i]<=rk b[nb-1]:=λi _ hi=>(of_decide_eq_true (c.yes i hi)).2;have no:∀j (hj:j<a.size),m'<=j->j<na->rk b[nb-1]<=rk a[j]:=λj hj q q'=>by have:=of_decide_eq_false (c.no j q q');exact Int.le_of_lt (Int.not_le.mp λz=>this ⟨hj,z⟩)
 by_cases c0:na-m'>0;rw[if_pos c0];have m2:=m0.qa le λi h1 j h2 h3 h4 h5=>by have:=no i h1 h3 h4;have:=t.lb hb (show j<=nb-1 by lia);lia
 by_cases e2:m'=0;rw[if_pos (by simpa using e2)];exact Ο ⟨hs,m2.done (.inl e2)⟩;rw[if_neg (by simpa using e2)];exact zmB t ⟨m2,by lia,by lia,hj,hj',by lia⟩ yes hs;rw[if_neg c0];have:m'=na:=by lia
 subst this;exact zmB t h yes hs
theorem zh6{Q:Array Keyed->SortSt->Prop}(t:Two prog w A s κ rk T a b st₀)(h:∀r st,SG st₀ st->InOrd rk (a.toList++b.toList) r.toList->Q r st):wpS (model prog w) A E s (zc6 a b) Q st₀:=by
 rw[zh7];have nb:=t.nb;have na:=t.na;have hl:a.size-1<a.size:=by lia
 have m:HiM rk a b #[a[a.size-1]] (a.size-1) b.size:=by have:=HiM.pa (nb:=b.size) ⟨?_,.nil,?_,?_,by simp⟩ na hl λj hj _=>Int.le_of_lt (t.h2 j hj);simpa using this;rw[List.take_of_length_le (by simp),List.take_of_length_le (by simp)];exact List.Perm.append (l₁:=a.toList.reverse) (List.reverse_perm _) (List.reverse_perm _);rw[List.take_of_length_le (by simp)];exact List.pairwise_reverse.mpr (t.sa.imp λ{x y} (q:rk x<=rk y)=>(by unfold Le ng;lia));rw[List.take_of_length_le (by simp)];exact List.pairwise_reverse.mpr (t.sb.imp λ{x y} (q:rk x<=rk y)=>(by unfold Le ng;lia))
 refine Μ (wpS_lift (Ϭ ⟨rfl,Μ (zat hl ?_)⟩));by_cases e:a.size-1=0;rw[if_pos (by simpa using e)];exact Ο (h _ _ ⟨_,rfl⟩ (m.done (.inl e)));rw[if_neg (by simpa using e)];by_cases e2:b.size=1;rw[if_pos (by simpa using e2)];exact Ο (h _ _ ⟨_,rfl⟩ (m.first t e2))
 . rw[if_neg (by simpa using e2)];refine zqo (λk d=>HiI rk a b k d.2.2.1 d.1 d.2.1) (λk d=>HiI rk a b k d.2.2.1 d.1 d.2.1) (λk d=>HiI rk a b k d.2.2.1 d.1 d.2.1)
    (λ_ _ _ q z=>z.up q) (λ_ _ _ q z=>z.up q) (λ_ _ z=>z) (λ_ _ _ z=>z) (λ_ _ z=>z) (λk c z=>by have:=z.k;lia)
    (λc i d st hs z=>zqQ t z hs) (λi d st hs z=>?_) (λg=>(⟨m,by lia,by lia,by lia,by lia,by lia⟩:HiI rk a b 0 #[a[a.size-1]] (a.size-1) b.size)) h
   split<;>exact zqR t z hs
end
noncomputable def Kr(rk:Keyed->Int)(xs:Array Keyed)(i:Nat):Int:=(xs[i]?.map rk).getD 0
theorem Kr_at{rk:Keyed->Int}{xs:Array Keyed}{i:Nat}(h:i<xs.size):Kr rk xs i=rk xs[i]:=by unfold Kr;rw[getElem?_pos xs i h];rfl
theorem zcI{rk:Keyed->Int}{xs ys:Array Keyed}{i j:Nat}(h:xs[i]?=ys[j]?):Kr rk xs i=Kr rk ys j:=by unfold Kr;rw[h]
noncomputable def So(rk:Keyed->Int)(xs:Array Keyed)(lo hi:Nat):Prop:=∀i j,lo<=i->i<j->j<hi->Kr rk xs i<Kr rk xs j
structure SB(κ:SortKind)(T:List Keyed)(st:SortSt):Prop where
 perm:(arrOf st).toList.Perm T
 kind:kindOf st=κ
 failed:failedOf st=Ψ
section
variable{prog:Τ}{w:ϐ}{A:ϑ}{E:Λ->Η->Prop}{s:Η}{κ:SortKind}{rk:Keyed->Int}{T:List Keyed}{st:SortSt}
theorem SB.size(b:SB κ T st):(arrOf st).size=T.length:=by have:=b.perm.length_eq;simpa using this
theorem SB.mem(b:SB κ T st){i:Nat}(h:i<(arrOf st).size):(arrOf st)[i]∈T:=b.perm.mem_iff.mp (by simp)
theorem SB.inj(b:SB κ T st)(u:(T.map rk).Nodup){i j:Nat}(hi:i<T.length)(hj:j<T.length)(ne:i≠j):Kr rk (arrOf st) i≠Kr rk (arrOf st) j:=by
 have hi':i<(arrOf st).size:=by rw[b.size];exact hi
 have hj':j<(arrOf st).size:=by rw[b.size];exact hj
 rw[Kr_at hi',Kr_at hj'];have nd:((arrOf st).toList.map rk).Nodup:=((b.perm.map rk).nodup_iff).mpr u;intro e;apply ne;have h1:i<((arrOf st).toList.map rk).length:=by simpa using hi'
 have h2:j<((arrOf st).toList.map rk).length:=by simpa using hj'
 exact(List.getElem_inj (h₀:=h1) (h₁:=h2) nd).mp (by simpa using e)
theorem SB.arr(b:SB κ T st){xs:Array Keyed}(h:xs.toList.Perm (arrOf st).toList):SB κ T (setArr st xs):=⟨h.trans b.perm,b.kind,b.failed⟩
theorem zcM{i j:Nat}{Q:Option Bool->SortSt->Prop}(hc:Looks prog w A s κ rk T)(b:SB κ T st)(hi:i<T.length)(hj:j<T.length)(h:Q (Φ (decide (Kr rk (arrOf st) i<Kr rk (arrOf st) j))) st):wpS (model prog w) A E s (ltAt' i j) Q st:=by
 have hi':i<(arrOf st).size:=by rw[b.size];exact hi
 have hj':j<(arrOf st).size:=by rw[b.size];exact hj
 refine Μ (wpS_get (Μ (zat hi' (Μ (zat hj' (zjA hc (b.mem _) (b.mem _) b.kind ?_))))));rw[Kr_at hi',Kr_at hj']at h;exact h
theorem So.snoc{xs:Array Keyed}{lo n:Nat}(h:So rk xs lo (lo+n))(h1:1<=n)(c:Kr rk xs (lo+n-1)<Kr rk xs (lo+n)):So rk xs lo (lo+(n+1)):=by
 intro i j hi hij hj;by_cases e:j<lo+n;exact h i j hi hij e;have:j=lo+n:=by lia
 subst this;by_cases e':i=lo+n-1;subst e';exact c;have:=h i (lo+n-1) hi (by lia) (by lia);lia
noncomputable def Fa(rk:Keyed->Int)(xs:Array Keyed)(lo hi:Nat):Prop:=∀i j,lo<=i->i<j->j<hi->Kr rk xs j<Kr rk xs i
theorem Fa.snoc{xs:Array Keyed}{lo n:Nat}(h:Fa rk xs lo (lo+n))(h1:1<=n)(c:Kr rk xs (lo+n)<Kr rk xs (lo+n-1)):Fa rk xs lo (lo+(n+1)):=by
 intro i j hi hij hj;by_cases e:j<lo+n;exact h i j hi hij e;have:j=lo+n:=by lia
 subst this;by_cases e':i=lo+n-1;subst e';exact c;have:=h i (lo+n-1) hi (by lia) (by lia);lia
noncomputable def Bl(lo:Nat)(xs ys:Array Keyed):Prop:=∀i,i<lo->ys[i]?=xs[i]?
theorem zlV{lo nrem:Nat}{Q:Option Nat->SortSt->Prop}(hc:Looks prog w A s κ rk T)(u:(T.map rk).Nodup)(b:SB κ T st)(h1:1<=nrem)(hn:lo+nrem=T.length)
  (h:∀m st',SB κ T st'->pendingOf st'=pendingOf st->Bl lo (arrOf st) (arrOf st')->1<=m->m<=nrem->So rk (arrOf st') lo (lo+m)->Q (Φ m) st'):wpS (model prog w) A E s (countRun' lo nrem) Q st:=by
 rw[countRun'_eq];dsimp only;refine Μ (ϫ (Ϧ (I:=λx c st'=>st'=st/\c=(Ψ,x)/\So rk (arrOf st) lo (lo+x)) (Q:=λc st'=>st'=st/\∃n,c=(Ψ,n)/\1<=n/\n<=nrem/\So rk (arrOf st) lo (lo+n)/\(n=nrem\/Kr rk (arrOf st) (lo+n)<Kr rk (arrOf st) (lo+n-1))) ?_ ?_ ⟨rfl,rfl,λi j _ _ _=>by lia⟩) ?_);rintro x c st' hx hxn ⟨rfl,rfl,so⟩;dsimp only;refine Μ (zcM hc b (by lia) (by lia) ?_);dsimp only;by_cases c:Kr rk (arrOf st') (lo+x)<Kr rk (arrOf st') (lo+x-1);rw[decide_eq_true c,if_pos rfl];exact Ο ⟨rfl,x,rfl,hx,by lia,so,.inr c⟩;rw[decide_eq_false c,if_neg Ζ];refine Ο ⟨rfl,rfl,so.snoc hx ?_⟩;have:=b.inj u (i:=lo+x) (j:=lo+x-1) (by lia) (by lia) (by lia);lia;rintro c st' ⟨rfl,rfl,so⟩;rw[show max 1 nrem=nrem by lia]at so⊢;exact⟨rfl,nrem,rfl,h1,le_refl _,so,.inl rfl⟩;rintro c st' ⟨rfl,n,rfl,n1,n2,so,n3⟩;dsimp only;by_cases e:n=nrem;rw[if_pos (by simpa using e)];exact Ο (h n st' b rfl (λ_ _=>rfl) n1 n2 so);rw[if_neg (by simpa using e)];have n3:=n3.resolve_left e;by_cases e1:n>1;rw[if_pos e1];refine Μ (zcM hc b (by lia) (by lia) ?_);dsimp only;rw[decide_eq_true (so lo (lo+n-1) (le_refl _) (by lia) (by lia)),if_pos rfl];exact Ο (h n st' b rfl (λ_ _=>rfl) n1 n2 so);rw[if_neg e1];have:n=1:=by lia
 subst this;refine Μ (wpS_lift (Ϭ ⟨rfl,?_⟩));refine Μ (ϫ (Ϧ (I:=λx c st=>st=st'/\c=(Ψ,x,0)/\Fa rk (arrOf st') lo (lo+x)) (Q:=λc st=>st=st'/\∃n,c=(Ψ,n,0)/\1<=n/\n<=nrem/\Fa rk (arrOf st') lo (lo+n)) ?_ ?_ ⟨rfl,rfl,Fa.snoc (n:=1) (λi j _ _ _=>by lia) (le_refl _) n3⟩) ?_);rintro x c st hx hxn ⟨rfl,rfl,fa⟩;dsimp only;refine Μ (zcM hc b (by lia) (by lia) ?_);dsimp only;by_cases c:Kr rk (arrOf st) (lo+x)<Kr rk (arrOf st) (lo+x-1);rw[decide_eq_true c,if_pos rfl,if_neg (by lia)];exact Ο ⟨rfl,rfl,fa.snoc (by lia) c⟩;rw[decide_eq_false c,if_neg Ζ];refine Μ (zcM hc b (by lia) (by lia) ?_);have:=b.inj u (i:=lo+x) (j:=lo+x-1) (by lia) (by lia) (by lia);dsimp only;rw[decide_eq_true (by lia),if_pos rfl];exact Ο ⟨rfl,x,rfl,by lia,by lia,fa⟩;rintro c st ⟨rfl,rfl,fa⟩;rw[show max (1+1) nrem=nrem by lia]at fa⊢;exact⟨rfl,nrem,rfl,by lia,le_refl _,fa⟩;rintro c st ⟨rfl,n,rfl,n1,n2,fa⟩;dsimp only;rw[if_neg (by lia)];refine Μ (wpS_reverse ?_);have bs:lo+n<=(arrOf st).size:=by rw[b.size];lia
 have pm:=mirror_perm (arrOf st) lo (lo+n) ((lo+n-lo)/2);have gm:=getElem?_mirror_all (i:=lo) bs;generalize mirror (arrOf st) lo (lo+n) ((lo+n-lo)/2)=xs at pm gm⊢;have mi:∀k,Kr rk xs k=if lo<=k/\k<lo+n then Kr rk (arrOf st) (lo+(lo+n)-1-k) else Kr rk (arrOf st) k:=λk=>by have e:=gm k;by_cases z:lo<=k/\k<lo+n;rw[if_pos z]at e⊢;exact zcI e;rw[if_neg z]at e⊢;exact zcI e
 have b2:SB κ T (setArr st xs):=b.arr (Array.perm_iff_toList_perm.mp pm);have so2:So rk xs lo (lo+n):=λi j h1 h2 h3=>by rw[mi,mi,if_pos ⟨h1,by lia⟩,if_pos ⟨by lia,h3⟩];exact fa _ _ (by lia) (by lia) (by lia)
 have bl:Bl lo (arrOf st) xs:=λi hi=>by rw[gm,if_neg (by lia)]
 refine Μ (ϫ (Ϧ (I:=λx c st2=>st2=setArr st xs/\c=(Ψ,x)/\So rk xs lo (lo+x)) (Q:=λc st2=>st2=setArr st xs/\∃n',c=(Ψ,n')/\1<=n'/\n'<=nrem/\So rk xs lo (lo+n')) ?_ ?_ ⟨rfl,rfl,so2⟩) ?_);rintro x c st2 hx hxn ⟨rfl,rfl,so⟩;dsimp only;refine Μ (zcM hc b2 (by lia) (by lia) ?_);dsimp only;by_cases c:Kr rk xs (lo+x)<Kr rk xs (lo+x-1);rw[decide_eq_true c,if_pos rfl];exact Ο ⟨rfl,x,rfl,by lia,by lia,so⟩;rw[decide_eq_false c,if_neg Ζ];refine Ο ⟨rfl,rfl,so.snoc (by lia) ?_⟩;have:Kr rk xs (lo+x)≠Kr rk xs (lo+x-1):=b2.inj u (i:=lo+x) (j:=lo+x-1) (by lia) (by lia) (by lia);lia;rintro c st2 ⟨rfl,rfl,so⟩;rw[show max n nrem=nrem by lia]at so⊢;exact⟨rfl,nrem,rfl,h1,le_refl _,so⟩;rintro c st2 ⟨rfl,m,rfl,m1,m2,so⟩;exact Ο (h m _ b2 rfl bl m1 m2 so)
theorem zkA{lo n ok:Nat}{Q:Bool->SortSt->Prop}(hc:Looks prog w A s κ rk T)(u:(T.map rk).Nodup)(b:SB κ T st)(h1:1<=ok)(h2:ok<=n)(hn:lo+n<=T.length)(so:So rk (arrOf st) lo (lo+ok))
  (h:∀st',SB κ T st'->pendingOf st'=pendingOf st->Bl lo (arrOf st) (arrOf st')->So rk (arrOf st') lo (lo+n)->Q Γ st'):wpS (model prog w) A E s (binarySort' lo n ok) Q st:=by
 rw[binarySort'_eq];refine Μ (ϫ (Ϧ (I:=λk c st'=>c=(Ψ,())/\SB κ T st'/\pendingOf st'=pendingOf st/\Bl lo (arrOf st) (arrOf st')/\So rk (arrOf st') lo (lo+k))
  (Q:=λc st'=>c=(Ψ,())/\SB κ T st'/\pendingOf st'=pendingOf st/\Bl lo (arrOf st) (arrOf st')/\So rk (arrOf st') lo (lo+n)) ?_ ?_ ⟨rfl,b,rfl,λ_ _=>rfl,by rw[Nat.max_eq_left h1];exact so⟩) ?_)
 rintro k c st' hk hkn ⟨rfl,b',pe,bl,so'⟩;have hk1:1<=k:=by lia
 refine Μ (ϫ (Ϧ (I:=λx c st''=>st''=st'/\∃l r,c=(Ψ,l,r)/\l<=r/\r<=k/\r-l<=k-x/\(∀i,i<l->Kr rk (arrOf st') (lo+i)<Kr rk (arrOf st') (lo+k))/\(∀i,r<=i->i<k->Kr rk (arrOf st') (lo+k)<Kr rk (arrOf st') (lo+i)))
  (Q:=λc st''=>st''=st'/\∃l r,c=(Ψ,l,r)/\l<=k/\(∀i,i<l->Kr rk (arrOf st') (lo+i)<Kr rk (arrOf st') (lo+k))/\(∀i,l<=i->i<k->Kr rk (arrOf st') (lo+k)<Kr rk (arrOf st') (lo+i))) ?_ ?_ ⟨rfl,0,k,rfl,by lia,by lia,by lia,λi hi=>by lia,λi h1 h2=>by lia⟩) ?_)
 rintro x c st'' _ hx ⟨rfl,l,r,rfl,a1,a2,a3,a4,a5⟩;dsimp only;by_cases z:l≥r;rw[if_pos z];obtain rfl:l=r:=by lia
 exact Ο ⟨rfl,l,l,rfl,a2,a4,a5⟩;rw[if_neg z];refine Μ (zcM hc b' (by lia) (by lia) ?_);dsimp only;by_cases c:Kr rk (arrOf st'') (lo+k)<Kr rk (arrOf st'') (lo+(l+r)/2);rw[decide_eq_true c,if_pos rfl];refine Ο ⟨rfl,l,_,rfl,by lia,by lia,by lia,a4,λi q1 q2=>?_⟩;by_cases e:(l+r)/2=i;subst e;exact c;have:=so' (lo+(l+r)/2) (lo+i) (by lia) (by lia) (by lia);lia;rw[decide_eq_false c,if_neg Ζ];refine Ο ⟨rfl,_,r,rfl,by lia,by lia,by lia,λi q1=>?_,a5⟩;have:=b'.inj u (i:=lo+k) (j:=lo+(l+r)/2) (by lia) (by lia) (by lia);by_cases e:i=(l+r)/2;subst e;lia;have:=so' (lo+i) (lo+(l+r)/2) (by lia) (by lia) (by lia);lia;rintro c st'' ⟨rfl,l,r,rfl,a1,a2,a3,a4,a5⟩;obtain rfl:l=r:=by lia
 exact⟨rfl,l,l,rfl,a2,a4,a5⟩;rintro c st'' ⟨rfl,l,r,rfl,lk,a4,a5⟩;show wpS _ _ _ _ (do moveDown' (lo+k) (lo+l);pure (ForInStep.yield (Ψ,()))) _ _;rw[moveDown'_eq];have hks:lo+k<(arrOf st'').size:=by rw[b'.size];lia
 have g:=getElem?_bubble hks (lo+k-(lo+l)) (by lia);have pm:=bubble_perm (arrOf st'') (lo+k) (lo+k-(lo+l));refine Μ (wpS_modify (Ο ⟨rfl,b'.arr (Array.perm_iff_toList_perm.mp pm),pe,λi hi=>?_,λi j q1 q2 q3=>?_⟩));show(bubble (arrOf st'') (lo+k) (lo+k-(lo+l)))[i]?=_;rw[g,if_neg (by lia),if_neg (by lia)];exact bl i hi
 . show Kr rk (bubble (arrOf st'') (lo+k) (lo+k-(lo+l))) i<Kr rk (bubble (arrOf st'') (lo+k) (lo+k-(lo+l))) j;have gk:∀t,Kr rk (bubble (arrOf st'') (lo+k) (lo+k-(lo+l))) t=if t=lo+l then Kr rk (arrOf st'') (lo+k) else if lo+l<t/\t<=lo+k then Kr rk (arrOf st'') (t-1) else Kr rk (arrOf st'') t:=λt=>by
    have e:=g t;rw[show lo+k-(lo+k-(lo+l))=lo+l by lia]at e;unfold Kr;rw[e]
    repeat' split
    all_goals rfl
   have a4':∀t,lo<=t->t<lo+l->Kr rk (arrOf st'') t<Kr rk (arrOf st'') (lo+k):=λt y1 y2=>by have:=a4 (t-lo) (by lia);rwa [show lo+(t-lo)=t by lia]at this
   have a5':∀t,lo+l<=t->t<lo+k->Kr rk (arrOf st'') (lo+k)<Kr rk (arrOf st'') t:=λt y1 y2=>by have:=a5 (t-lo) (by lia) (by lia);rwa [show lo+(t-lo)=t by lia]at this
   rw[gk,gk]
   repeat' split
   all_goals first
    |(exfalso;lia)
    |exact a4' _ (by lia) (by lia)
    |exact a5' _ (by lia) (by lia)
    |exact so' _ _ (by lia) (by lia) (by lia)
 rintro c st' ⟨hc,b',pe,bl,so'⟩;rw[show max (max ok 1) n=n by lia]at so';exact⟨hc,b',pe,bl,so'⟩;rintro c st' ⟨rfl,b',pe,bl,so'⟩;exact Ο (h st' b' pe bl so')
theorem zhp(c:Nat):∀(l:List Keyed)(n:Nat)(xs:Array Keyed),c+n+l.length<=xs.size->∀i:Nat,((l.zipIdx n).foldl (λa (p:Keyed×Nat)=>a.setIfInBounds (c+p.2) p.1) xs)[i]?=if c+n<=i/\i<c+n+l.length then l[i-(c+n)]? else xs[i]?
 | [],n,xs,h,i=>by rw[if_neg (by simp)];rfl| x::l,n,xs,h,i=>by
  have h':c+(n+1)+l.length<=(xs.setIfInBounds (c+n) x).size:=by rw[Array.size_setIfInBounds];simp at h;lia
  have:=zhp c l (n+1) (xs.setIfInBounds (c+n) x) h' i;rw[List.zipIdx_cons,List.foldl_cons,this];simp only[length_cons]at h⊢;by_cases e:i=c+n;subst e;rw[if_neg (by lia),if_pos (by lia),Array.getElem?_setIfInBounds_self_of_lt (by lia),Nat.sub_self];rfl;rw[Array.getElem?_setIfInBounds_ne (by lia)];by_cases z:c+n<=i/\i<c+n+(l.length+1);rw[if_pos z,if_pos (by lia),show i-(c+n)=(i-(c+(n+1)))+1 by lia];rfl;rw[if_neg z,if_neg (by lia)]
theorem zfa{xs:Array Keyed}{i:Nat}{x:Keyed}(h:xs[i]?=Φ x):Kr rk xs i=rk x:=by unfold Kr;rw[h];rfl
theorem So.of(b:SB κ T st)(u:(T.map rk).Nodup){lo hi:Nat}(hh:hi<=T.length)(h:∀i j,lo<=i->i<j->j<hi->Kr rk (arrOf st) i<=Kr rk (arrOf st) j):So rk (arrOf st) lo hi:=λi j h1 h2 h3=>by have:=h i j h1 h2 h3;have:=b.inj u (i:=i) (j:=j) (by lia) (by lia) (by lia);lia
theorem zjS{xs ys:Array Keyed}{r:List Keyed}{p q:Nat}(hp:p<=q)(hq:q<=xs.size)(hr:r.Perm (xs.extract p q).toList)(h:∀i:Nat,ys[i]?=if p<=i/\i<q then r[i-p]? else xs[i]?):ys.toList.Perm xs.toList:=by
 have rl:r.length=q-p:=by have:=hr.length_eq;simp at this;lia
 have e:ys.toList=xs.toList.take p++(r++xs.toList.drop q):=by
  apply ext_getElem?;intro i;rw[Χ,h i];by_cases z:i<p;rw[if_neg (by lia),getElem?_append_left (by simp;lia),List.getElem?_take,if_pos z,Χ];rw[getElem?_append_right (by simp;lia)];have l1:(xs.toList.take p).length=p:=by simp;lia
  rw[l1];by_cases z2:i<q;rw[if_pos ⟨by lia,z2⟩,getElem?_append_left (by lia)];rw[if_neg (by lia),getElem?_append_right (by lia),List.getElem?_drop,rl,Χ];congr 1;lia
 have e2:xs.toList=xs.toList.take p++((xs.extract p q).toList++xs.toList.drop q):=by
  rw[ze1];have e3:xs.toList.take q=xs.toList.take p++(xs.toList.take q).drop p:=by have:=List.take_append_drop p (xs.toList.take q);rw[List.take_take,Nat.min_eq_left hp]at this;exact this.symm
  rw[<-append_assoc,<-e3,List.take_append_drop]
 rw[e];exact(List.Perm.append_left _ (List.Perm.append_right _ hr)).trans (List.Perm.of_eq e2.symm)
structure Run2(κ:SortKind)(rk:Keyed->Int)(T:List Keyed)(xs:Array Keyed)(sa na nb:Nat):Prop where
 a1:1<=na
 b1:1<=nb
 le:sa+na+nb<=T.length
 so1:So rk xs sa (sa+na)
 so2:So rk xs (sa+na) (sa+na+nb)
theorem SG.perm{st':SortSt}(h:SG st st'):arrOf st'=arrOf st/\kindOf st'=kindOf st/\failedOf st'=failedOf st/\pendingOf st'=pendingOf st:=by obtain⟨_,rfl⟩:=h;exact⟨rfl,rfl,rfl,rfl⟩
theorem So.le{xs:Array Keyed}{lo hi i j:Nat}(h:So rk xs lo hi)(h1:lo<=i)(h2:i<=j)(h3:j<hi):Kr rk xs i<=Kr rk xs j:=by by_cases e:i=j;subst e;exact Int.le_refl _;exact Int.le_of_lt (h i j h1 (by lia) h3)
theorem zdL{xs:Array Keyed}{p q i:Nat}(h:i<(xs.extract p q).size):rk (xs.extract p q)[i]=Kr rk xs (p+i):=by rw[Array.getElem_extract];exact(Kr_at _).symm
theorem zem{xs:Array Keyed}{lo hi p q:Nat}(h:So rk xs lo hi)(h1:lo<=p)(h2:q<=hi):(xs.extract p q).toList.Pairwise (Le rk):=by rw[List.pairwise_iff_getElem];intro i j hi hj hij;show rk _<=rk _;simp only[Ϡ];rw[zdL (rk:=rk),zdL (rk:=rk)];simp at hj;exact h.le (by lia) (by lia) (by lia)
theorem zh8{i sa na nb pw z:Nat}{Q:Bool->SortSt->Prop}(hc:Looks prog w A s κ rk T)(u:(T.map rk).Nodup)(b:SB κ T st)(e1:(pendingOf st)[i]?=Φ (sa,na,pw))(e2:(pendingOf st)[i+1]?=Φ (sa+na,nb,z))(r:Run2 κ rk T (arrOf st) sa na nb)
  (h:∀st',SB κ T st'->pendingOf st'=((pendingOf st).setIfInBounds i (sa,na+nb,pw)).eraseIdxIfInBounds (i+1)->(∀j,j<sa\/sa+na+nb<=j->(arrOf st')[j]?=(arrOf st)[j]?)->So rk (arrOf st') sa (sa+na+nb)->Q Γ st'):wpS (model prog w) A E s (mergeAt' i) Q st:=by
 obtain⟨a1,b1,le,soa,sob⟩:=r;have sz:=b.size;have mem:∀i (h:i<(arrOf st).size),(arrOf st)[i]∈T:=λi h=>b.mem h;have hsb:sa+na<(arrOf st).size:=by lia
 rw[zgA];refine Μ (wpS_get ?_);rw[e1,e2];dsimp only;refine Μ (wpS_modify (f:=λ_=>setPending st _) ?_);generalize ep:((pendingOf st).setIfInBounds i (sa,na+nb,pw)).eraseIdxIfInBounds (i+1)=pe at h⊢;have b1':SB κ T (setPending st pe):=⟨b.perm,b.kind,b.failed⟩;refine Μ (zat hsb (Μ (zbr (T:=T) (λi=>decide (Kr rk (arrOf st) (sa+i)<=Kr rk (arrOf st) (sa+na))) hc b1'.kind (mem _ _) mem (by lia) (by lia) (λi h _=>?_) (λi j hij hj q=>?_) λk c=>?_)));rw[Kr_at h,Kr_at hsb,zjQ];rfl;exact decide_eq_true (Int.le_trans (soa.le (by lia) (by lia) (by lia)) (of_decide_eq_true q));dsimp only;have ck:=c.le;have yes:∀j,sa<=j->j<sa+k->Kr rk (arrOf st) j<=Kr rk (arrOf st) (sa+na):=λj q1 q2=>by
  have:=of_decide_eq_true (c.yes (j-sa) (by lia))
  rwa [show sa+(j-sa)=j by lia]at this
 have no:∀j,sa+k<=j->j<sa+na->Kr rk (arrOf st) (sa+na)<Kr rk (arrOf st) j:=λj q1 q2=>by have:=of_decide_eq_false (c.no (j-sa) (by lia) (by lia));rw[show sa+(j-sa)=j by lia]at this;lia
 by_cases k0:na-k=0;rw[if_pos (by simpa using k0)];refine Ο (h _ b1' rfl (λ_ _=>rfl) (So.of b1' u le λi j q1 q2 q3=>?_));show Kr rk (arrOf st) i<=Kr rk (arrOf st) j;by_cases z1:j<sa+na;exact soa.le q1 (by lia) z1;by_cases z2:i<sa+na;exact Int.le_trans (yes i q1 (by lia)) (sob.le (le_refl _) (by lia) q3);exact sob.le (by lia) (by lia) q3;rw[if_neg (by simpa using k0)];have el:sa+k+(na-k)-1=sa+na-1:=by lia
 have hl:sa+na-1<(arrOf st).size:=by lia
 rw[el];refine Μ (zat hl (Μ (zbr (T:=T) (λi=>decide (Kr rk (arrOf st) (sa+na+i)<Kr rk (arrOf st) (sa+na-1))) hc b1'.kind (mem _ _) mem (by lia) (by lia) (λi h _=>?_) (λi j hij hj q=>?_) λm d=>?_)));rw[Kr_at h,Kr_at hl];rfl;exact decide_eq_true (Int.lt_of_le_of_lt (sob.le (by lia) (by lia) (by lia)) (of_decide_eq_true q));dsimp only;have dm:=d.le;have yes2:∀j,sa+na<=j->j<sa+na+m->Kr rk (arrOf st) j<Kr rk (arrOf st) (sa+na-1):=λj q1 q2=>by
  have:=of_decide_eq_true (d.yes (j-(sa+na)) (by lia))
  rwa [show sa+na+(j-(sa+na))=j by lia]at this
 have no2:∀j,sa+na+m<=j->j<sa+na+nb->Kr rk (arrOf st) (sa+na-1)<=Kr rk (arrOf st) j:=λj q1 q2=>by have:=of_decide_eq_false (d.no (j-(sa+na)) (by lia) (by lia));rw[show sa+na+(j-(sa+na))=j by lia]at this;lia
 have m0:m≠0:=λe=>by have:=no2 (sa+na) (by lia) (by lia);have:=no (sa+na-1) (by lia) (by lia);lia
 rw[if_neg (by simpa using m0)];have xz:((arrOf st).extract (sa+k) (sa+na)).size=na-k:=by simp;lia
 have yz:((arrOf st).extract (sa+na) (sa+na+m)).size=m:=by simp;lia
 have tw:Two prog w A s κ rk T ((arrOf st).extract (sa+k) (sa+na)) ((arrOf st).extract (sa+na) (sa+na+m)) (setPending st pe):=
  ⟨hc,b1'.kind,λi h=>by rw[Array.getElem_extract];exact mem _ _,λi h=>by rw[Array.getElem_extract];exact mem _ _,zem soa (by lia) (le_refl _),zem sob (le_refl _) (by lia),by lia,by lia,
   λi h=>by rw[zdL (rk:=rk),zdL (rk:=rk)];exact no _ (by lia) (by lia),
   λi h=>by rw[zdL (rk:=rk),zdL (rk:=rk),xz,show sa+k+(na-k-1)=sa+na-1 by lia];exact yes2 _ (by lia) (by lia)⟩
 have fin:∀(r:Array Keyed)(st':SortSt),SG (setPending st pe) st'->InOrd rk (((arrOf st).extract (sa+k) (sa+na)).toList++((arrOf st).extract (sa+na) (sa+na+m)).toList) r.toList->wpS (model prog w) A E s (do
   modify λs=>setArr s (r.toList.zipIdx.foldl (λa (p,j)=>a.setIfInBounds (sa+k+j) p) (arrOf s))
   return (failedOf (<-get)).isNone) Q st':=λr st' g o=>by
  obtain⟨ga,gk,gf,gp⟩:=g.perm;have rl:r.toList.length=na-k+m:=by have:=o.1.length_eq;rw[length_append,length_toList,length_toList,length_toList,xz,yz]at this;simpa using this
  refine Μ (wpS_modify (Μ (wpS_get ?_)));have ex:((arrOf st).extract (sa+k) (sa+na)).toList++((arrOf st).extract (sa+na) (sa+na+m)).toList=((arrOf st).extract (sa+k) (sa+na+m)).toList:=by rw[<-ϗ,Array.extract_append_extract];congr 2<;>lia
  have gi:∀i:Nat,(r.toList.zipIdx.foldl (λa (p:Keyed×Nat)=>a.setIfInBounds (sa+k+p.2) p.1) (arrOf st))[i]?=if sa+k<=i/\i<sa+na+m then r.toList[i-(sa+k)]? else(arrOf st)[i]?:=λi=>by have:=zhp (sa+k) r.toList 0 (arrOf st) (by lia) i;rw[Nat.add_zero,rl,show sa+k+(na-k+m)=sa+na+m by lia]at this;exact this
  have b2:SB κ T (setArr st' (r.toList.zipIdx.foldl (λa (p:Keyed×Nat)=>a.setIfInBounds (sa+k+p.2) p.1) (arrOf st))):=⟨(zjS (p:=sa+k) (q:=sa+na+m) (by lia) (by lia) (by rw[<-ex];exact o.1) gi).trans b.perm,gk.trans b.kind,gf.trans b.failed⟩;have mid:∀t,sa+k<=t->t<sa+na+m->∃x,(r.toList.zipIdx.foldl (λa (p:Keyed×Nat)=>a.setIfInBounds (sa+k+p.2) p.1) (arrOf st))[t]?=Φ x/\∃j,sa+k<=j/\j<sa+na+m/\rk x=Kr rk (arrOf st) j:=λt t1 t2=>by
   rw[gi,if_pos ⟨t1,t2⟩];have hl:t-(sa+k)<r.toList.length:=by lia
   refine⟨_,Ε hl,?_⟩;have:=o.1.mem_iff.mp (ϕ hl);rw[ex]at this;obtain⟨j,hj,e⟩:=ϓ.mp this;simp only[length_toList]at hj;rw[Ϡ]at e;refine⟨sa+k+j,by lia,?_,?_⟩;simp at hj;lia;rw[<-e,zdL (rk:=rk)]
  generalize ef:r.toList.zipIdx.foldl (λa (p:Keyed×Nat)=>a.setIfInBounds (sa+k+p.2) p.1) (arrOf st)=ys at gi b2 mid;have ef':r.toList.zipIdx.foldl (λa (p,j)=>a.setIfInBounds (sa+k+j) p) (arrOf st')=ys:=by rw[ga];exact ef
  rw[ef'];show wpS _ _ _ _ (pure (failedOf st').isNone) _ _;rw[gf.trans b.failed];refine Ο (h _ b2 gp (λj hj=>?_) (So.of b2 u le λi j q1 q2 q3=>?_));show ys[j]?=_;rw[gi,if_neg (by lia)];show Kr rk ys i<=Kr rk ys j;have out:∀t,t<sa+k\/sa+na+m<=t->Kr rk ys t=Kr rk (arrOf st) t:=λt ht=>zcI (by rw[gi,if_neg (by lia)]);have low:∀t v,sa<=t->t<sa+k->sa+k<=v->v<sa+na+nb->Kr rk (arrOf st) t<=Kr rk (arrOf st) v:=λt v y1 y2 y3 y4=>by by_cases z1:v<sa+na;exact soa.le y1 (by lia) z1;exact Int.le_trans (yes t y1 y2) (sob.le (le_refl _) (by lia) y4)
  have high:∀t v,sa<=t->t<sa+na+m->sa+na+m<=v->v<sa+na+nb->Kr rk (arrOf st) t<=Kr rk (arrOf st) v:=λt v y1 y2 y3 y4=>by by_cases z1:t<sa+na;exact Int.le_trans (soa.le y1 (show t<=sa+na-1 by lia) (by lia)) (no2 v y3 y4);exact sob.le (by lia) (by lia) y4
  by_cases i1:i<sa+k;rw[out i (.inl i1)];by_cases j1:j<sa+k;rw[out j (.inl j1)];exact soa.le q1 (by lia) (by lia);by_cases j2:j<sa+na+m;obtain⟨x,g1,v,v1,v2,v3⟩:=mid j (by lia) j2;rw[zfa g1,v3];exact low i v q1 i1 v1 (by lia);rw[out j (.inr (by lia))];exact low i j q1 i1 (by lia) q3;by_cases i2:i<sa+na+m;obtain⟨x,g1,v,v1,v2,v3⟩:=mid i (by lia) i2;by_cases j2:j<sa+na+m;have gj:=gi j;have gi':=gi i;rw[if_pos ⟨by lia,j2⟩,Ε (by lia)]at gj;rw[if_pos ⟨by lia,i2⟩,Ε (by lia)]at gi';rw[zfa gj,zfa gi'];exact List.pairwise_iff_getElem.mp o.2 _ _ _ _ (by lia);rw[out j (.inr (by lia)),zfa g1,v3];exact high v j (by lia) v2 (by lia) q3;rw[out i (.inr (by lia)),out j (.inr (by lia))];exact sob.le (by lia) (by lia) q3
 by_cases lh:na-k<=m;rw[if_pos lh];exact Μ (zh4 tw fin);rw[if_neg lh];exact Μ (zh6 tw fin)
end
section
variable{rk:Keyed->Int}
noncomputable def Cv(rk:Keyed->Int)(xs:Array Keyed):List (Nat×Nat×Nat)->Nat->Nat->Prop
 | [],a,b=>a=b|r::l,a,b=>r.1=a/\1<=r.2.1/\So rk xs a (a+r.2.1)/\Cv rk xs l (a+r.2.1) b
theorem Cv.le{xs:Array Keyed}:∀{l:List (Nat×Nat×Nat)}{a b:Nat},Cv rk xs l a b->a+l.length<=b
 | [],_,_,h=>by cases h;simp|r::l,a,b,h=>by have:=h.2.2.2.le;have:=h.2.1;simp;lia
theorem Cv.app{xs:Array Keyed}{m:List (Nat×Nat×Nat)}{b:Nat}:∀{l:List (Nat×Nat×Nat)}{a:Nat},Cv rk xs (l++m) a b↔∃c,Cv rk xs l a c/\Cv rk xs m c b
 | [],a=>⟨λh=>⟨a,rfl,h⟩,λ⟨c,h1,h2⟩=>by cases h1;exact h2⟩|r::l,a=>⟨λh=>by obtain⟨c,h1,h2⟩:=(Cv.app (l:=l)).mp h.2.2.2;exact⟨c,⟨h.1,h.2.1,h.2.2.1,h1⟩,h2⟩,λz=>(by obtain⟨c,h1,h2⟩:=z;exact ⟨h1.1,h1.2.1,h1.2.2.1,(Cv.app (l:=l)).mpr ⟨c,h1.2.2.2,h2⟩⟩)⟩
theorem So.congr{xs ys:Array Keyed}{lo hi:Nat}(h:So rk xs lo hi)(e:∀i,lo<=i->i<hi->ys[i]?=xs[i]?):So rk ys lo hi:=λi j h1 h2 h3=>by rw[zcI (e i h1 (by lia)),zcI (e j (by lia) h3)];exact h i j h1 h2 h3
theorem Cv.congr{xs ys:Array Keyed}:∀{l:List (Nat×Nat×Nat)}{a b:Nat},Cv rk xs l a b->(∀i,a<=i->i<b->ys[i]?=xs[i]?)->Cv rk ys l a b
 | [],_,_,h,_=>h| r::l,a,b,h,e=>by have:=h.2.2.2.le;exact⟨h.1,h.2.1,h.2.2.1.congr λi h1 h2=>e i h1 (by lia),h.2.2.2.congr λi h1 h2=>e i (by lia) h2⟩
theorem Cv.modify{xs:Array Keyed}{f:Nat×Nat×Nat->Nat×Nat×Nat}(hf:∀r,(f r).1=r.1/\(f r).2.1=r.2.1):∀{l:List (Nat×Nat×Nat)}{i a b:Nat},Cv rk xs l a b->Cv rk xs (l.modify i f) a b
 | [],i,_,_,h=>by cases i<;>exact h| r::l,0,a,b,h=>by show Cv rk xs (f r::l) a b;have:=hf r;unfold Cv;rw[this.1,this.2];exact h|r::l,i+1,a,b,h=>⟨h.1,h.2.1,h.2.2.1,Cv.modify hf h.2.2.2⟩
end
section
variable{prog:Τ}{w:ϐ}{A:ϑ}{E:Λ->Η->Prop}{s:Η}{κ:SortKind}{rk:Keyed->Int}{T:List Keyed}{st:SortSt}
theorem zfy{i lo:Nat}{Q:Bool->SortSt->Prop}(hc:Looks prog w A s κ rk T)(u:(T.map rk).Nodup)(b:SB κ T st)(hl:lo<=T.length)(cv:Cv rk (arrOf st) (pendingOf st).toList 0 lo)(hi:i+1<(pendingOf st).size)
  (h:∀st',SB κ T st'->Cv rk (arrOf st') (pendingOf st').toList 0 lo->(pendingOf st').size+1=(pendingOf st).size->(∀j,lo<=j->(arrOf st')[j]?=(arrOf st)[j]?)->Q Γ st'):wpS (model prog w) A E s (mergeAt' i) Q st:=by
 generalize ep:(pendingOf st).toList=p at cv;have pl:p.length=(pendingOf st).size:=by rw[<-ep];simp
 have s1:p=p.take i++(p[i]::p[i+1]::p.drop (i+2)):=by have e1:p.drop i=p[i]::p.drop (i+1):=List.drop_eq_getElem_cons (by lia);have e2:p.drop (i+1)=p[i+1]::p.drop (i+2):=List.drop_eq_getElem_cons (by lia);rw[<-e2,<-e1,List.take_append_drop]
 generalize x1:p[i]=x at s1;generalize y1:p[i+1]=y at s1;have gx:(pendingOf st)[i]?=Φ x:=by rw[<-Χ,ep,Ε (by lia),x1]
 have gy:(pendingOf st)[i+1]?=Φ y:=by rw[<-Χ,ep,Ε (by lia),y1]
 rw[s1]at cv;obtain⟨c,v1,v2⟩:=Cv.app.mp cv;obtain⟨sa,na,pw⟩:=x;obtain⟨sb,nb,z⟩:=y;obtain⟨w1,w2,w3,w4,w5,w6,w7⟩:=v2;subst w1 w4;have le:=w7.le;refine zh8 hc u b gx gy ⟨w2,w5,by lia,w3,w6⟩ λst' b' pe fr so=>?_;have l0:(p.take i).length=i:=by simp;lia
 have ee:(pendingOf st').toList=p.take i++((sa,na+nb,pw)::p.drop (i+2)):=by
  rw[pe,Array.toList_eraseIdxIfInBounds,Array.toList_setIfInBounds,ep];conv=>lhs;rw[s1]
  rw[List.set_append_right _ _ (by lia),l0,Nat.sub_self,List.eraseIdx_append_of_length_le (by lia),l0,Nat.add_sub_cancel_left];rfl
 refine h st' b' ?_ ?_ λj hj=>fr j (.inr (by lia));rw[ee];refine Cv.app.mpr ⟨sa,v1.congr λi _ h2=>fr i (.inl h2),rfl,by lia,?_,?_⟩;rw[<-Ϯ];exact so;rw[<-Ϯ];exact w7.congr λi h1 h2=>fr i (.inr h1);rw[<-length_toList,ee];simp;lia
structure SR(κ:SortKind)(rk:Keyed->Int)(T:List Keyed)(lo:Nat)(st:SortSt):Prop where
 b:SB κ T st
 cv:Cv rk (arrOf st) (pendingOf st).toList 0 lo
theorem SR.push{lo n:Nat}(r:SR κ rk T lo st)(h1:1<=n)(so:So rk (arrOf st) lo (lo+n)):SR κ rk T (lo+n) (setPending st ((pendingOf st).push (lo,n,0))):=by refine⟨⟨r.b.perm,r.b.kind,r.b.failed⟩,?_⟩;rw[Array.toList_push];exact Cv.app.mpr ⟨lo,r.cv,rfl,h1,so,rfl⟩
theorem SR.mod{lo i:Nat}{f:Nat×Nat×Nat->Nat×Nat×Nat}(r:SR κ rk T lo st)(hf:∀r,(f r).1=r.1/\(f r).2.1=r.2.1):SR κ rk T lo (setPending st ((pendingOf st).modify i f)):=by refine⟨⟨r.b.perm,r.b.kind,r.b.failed⟩,?_⟩;rw[Array.toList_modify];exact Cv.modify hf r.cv
theorem zmN{z lo n:Nat}{body:Nat->Option Unit×Unit->StateT SortSt Sem (ForInStep (Option Unit×Unit))}{Q:Option Unit×Unit->SortSt->Prop}(hc:Looks prog w A s κ rk T)(u:(T.map rk).Nodup)(r:SR κ rk T lo st)(hl:lo+n<=T.length)(so:So rk (arrOf st) lo (lo+n))
  (hb:∀x (R:ForInStep (Option Unit×Unit)->SortSt->Prop) st,((pendingOf st).size>1->wpS (model prog w) A E s (mergeAt' ((pendingOf st).size-2)) (λo st'=>o=Γ/\R (.yield (Ψ,())) st') st)->R (.done (Ψ,())) st->wpS (model prog w) A E s (body x (Ψ,())) R st)
  (h:∀st',SR κ rk T lo st'->So rk (arrOf st') lo (lo+n)->Q (Ψ,()) st'):wpS (model prog w) A E s (forIn [0:z] ((Ψ,()):Option Unit×Unit) body) Q st:=by
 refine ϫ (Ϧ (I:=λ_ c st'=>c=(Ψ,())/\SR κ rk T lo st'/\So rk (arrOf st') lo (lo+n)) ?_ (λ_ _ z=>z) ⟨rfl,r,so⟩) ?_;rintro x c st' _ _ ⟨rfl,r,so⟩;exact hb x _ st' (λe=>(zfy hc u r.b (by lia) r.cv (by lia) λst2 b2 c2 _ fr=>⟨rfl,rfl,⟨b2,c2⟩,so.congr λi h1 _=>fr i h1⟩)) ⟨rfl,r,so⟩;rintro c st' ⟨rfl,r,so⟩;exact h st' r so
theorem runs_wp{Q:Unit->SortSt->Prop}(hc:Looks prog w A s κ rk T)(u:(T.map rk).Nodup)(b:SB κ T st)(pe:pendingOf st = #[])(h2:2<=T.length)
  (h:∀st',SB κ T st'->So rk (arrOf st') 0 T.length->Q () st'):wpS (model prog w) A E s sortRuns' Q st:=by
 rw[sortRuns'_eq];refine Μ (wpS_get ?_);dsimp only;rw[b.size];generalize minRun' T.length T.length 0=mr;refine Μ (ϫ (Ϧ (I:=λx c st'=>∃lo,c=(Ψ,lo)/\(x<=lo\/T.length<=lo)/\lo<=T.length/\SR κ rk T lo st') (Q:=λc st'=>c=(Ψ,T.length)/\SR κ rk T T.length st') ?_ ?_ ⟨0,rfl,.inl (le_refl _),zero_le _,b,by rw[pe];rfl⟩) ?_);rintro x c st' _ hx ⟨lo,rfl,l1,l2,r⟩;by_cases e:lo≥T.length;rw[if_pos e];obtain rfl:lo=T.length:=by lia
 exact Ο ⟨rfl,r⟩;rw[if_neg e];refine Μ (zlV hc u r.b (by lia) (by lia) λm st2 b2 p2 bl m1 m2 so=>?_);have r2:SR κ rk T lo st2:=⟨b2,by rw[p2];exact r.cv.congr λi _ h=>bl i h⟩;dsimp only;by_cases e2:m<mr;rw[if_pos e2];refine Μ (wpS_lift (Ϭ ⟨rfl,?_⟩));refine Μ (zkA hc u b2 m1 (by lia) (by lia) so λst3 b3 p3 bl3 so3=>?_);have r3:SR κ rk T lo st3:=⟨b3,by rw[p3];exact r2.cv.congr λi _ h=>bl3 i h⟩;refine Μ (wpS_get ?_);cases(pendingOf st3).back? with|none=>exact Μ (wpS_modify (Ο ⟨_,rfl,by lia,by lia,SR.push r3 (by lia) so3⟩))| some x=>refine Μ (zmN hc u r3 (by lia) so3 (λx R st h1 h2=>?_) λst4 r4 so4=>?_);refine Μ (wpS_get ?_);by_cases e:(pendingOf st).size>1;rw[if_pos e,getElem?_pos (pendingOf st) _ (by lia)];generalize(pendingOf st)[(pendingOf st).size-2]=v;dsimp only;split;exact Ο h2;refine Μ (ϫ (h1 e) ?_);rintro o st ⟨rfl,z⟩;exact Ο z;rw[if_neg e];exact Ο h2;refine Μ (wpS_modify (Μ (wpS_modify (Ο ⟨_,rfl,by lia,by lia,SR.push (SR.mod r4 λ_=>⟨rfl,rfl⟩) (by lia) so4⟩))))
 rw[if_neg e2];refine Μ (wpS_get ?_);cases(pendingOf st2).back? with|none=>exact Μ (wpS_modify (Ο ⟨_,rfl,by lia,by lia,SR.push r2 m1 so⟩))| some x=>refine Μ (zmN hc u r2 (by lia) so (λx R st h1 h2=>?_) λst4 r4 so4=>?_);refine Μ (wpS_get ?_);by_cases e:(pendingOf st).size>1;rw[if_pos e,getElem?_pos (pendingOf st) _ (by lia)];generalize(pendingOf st)[(pendingOf st).size-2]=v;dsimp only;split;exact Ο h2;refine Μ (ϫ (h1 e) ?_);rintro o st ⟨rfl,z⟩;exact Ο z;rw[if_neg e];exact Ο h2;refine Μ (wpS_modify (Μ (wpS_modify (Ο ⟨_,rfl,by lia,by lia,SR.push (SR.mod r4 λ_=>⟨rfl,rfl⟩) m1 so4⟩))))
 rintro c st' ⟨lo,rfl,l1,l2,r⟩;obtain rfl:lo=T.length:=by lia
 exact⟨rfl,r⟩;rintro c st' ⟨rfl,r⟩;have e0:=r.cv.le;simp only[zero_add]at e0;refine Μ (ϫ (Ϧ (I:=λx c st'=>c=(Ψ,())/\((pendingOf st').size<=1\/(pendingOf st').size+x<=T.length)/\SR κ rk T T.length st') (Q:=λc st'=>c=(Ψ,())/\(pendingOf st').size<=1/\SR κ rk T T.length st') ?_ ?_ ⟨rfl,.inr e0,r⟩) ?_);rintro x c st' _ hx ⟨rfl,l1,r⟩;refine Μ (wpS_get ?_);by_cases e:(pendingOf st').size<=1;rw[if_pos e];exact Ο ⟨rfl,e,r⟩
 . rw[if_neg e];refine Μ (zfy hc u r.b (le_refl _) r.cv ?_ λst2 b2 c2 z2 _=>Ο ⟨rfl,.inr (by lia),b2,c2⟩);generalize Option.any _ _=bb;cases bb<;>simp only[Υ]<;>lia
 rintro c st' ⟨rfl,l1,r⟩;exact⟨rfl,by lia,r⟩
 . rintro c st' ⟨rfl,l1,r⟩;refine Ο (h st' r.b ?_);have cv:=r.cv;have pl:(pendingOf st').toList.length<=1:=by simpa using l1
   match e:(pendingOf st').toList,pl with| [],_=>rw[e]at cv;have:0=T.length:=cv;lia| [p],_=>rw[e]at cv;obtain⟨_,_,so,e'⟩:=cv;rw[e']at so;exact so
end
end Sr
end R
namespace R
open PySem PySem.Spec PyProof.Rows L2
theorem zjO:∀(as bs:List Int),lexZ as bs=HT.lexLt as bs
 | [],[]=>by simp[lexZ,HT.lexLt]| [],_::_=>by simp[lexZ,HT.lexLt]|_::_,[]=>by simp[lexZ,HT.lexLt]|a::as,b::bs=>by simp[lexZ,HT.lexLt,zjO as bs]
section
variable{prog:Τ}{w:ϐ}{A:ϑ}{E:Λ->Η->Prop}{s:Η}
theorem ziK(x:IsTupleKey (zaf prog w) h (ks.map Sum.inl) b):∃items,IsTup h b items/\IntsAre items.toList ks:=by
 obtain⟨o,items,n,e,f,g,j⟩:=x;refine⟨items,⟨o,e,f,n,g⟩,?_⟩;have:∀{l:List Int}{a:List Λ},ItemsAre (zaf prog w) (l.map Sum.inl) a->IntsAre a l:=by intro l;induction l with|nil=>intro a h;cases h;exact .nil| cons x l k=>intro a h;cases h with| @cons _ v _ a m p=>rcases zas (show zfE (Sum.inl x) v=Γ from m) with⟨i,t,c,d⟩|⟨y,t,c,d⟩;cases c;subst d;exact .cons _ _ (k p);cases c
 exact this j
end
section
variable[Mks]{X:Cx}{T:Tab}{cf:CF}{k:Nat}{N:List Str}{sc:Scope}{pos p:Pos}
theorem zk2:PE X (.Dict [] [] pos) (tE X.K cf .dnew3):=by refine PE.imp zlt λd H e z=>?_;obtain⟨f,c,S,Q,g,a,w,q⟩:=z;intro p b;exact q _ _ ⟨.ref S.len,c++[p],S.push (.d3 []),Ext.obj a b _,⟨p,a.last p,rfl⟩,a.obj' b _ _ ⟨List.nodup_nil,[],zao,rfl⟩,w⟩
end
end R
namespace R
open PySem PySem.Spec PyProof.Rows L2
variable[Mks]
structure Ltr(K:Frag)(ι:List Addr)(H:Hp)(S:R.St)(lks:List Nat)(ι2:List Addr)(H2:Hp)(S2:R.St):Prop where
 ext:Ext ι H ι2 H2
 rh:RH K ι2 H2 S2
 lck:∀l∈lks,S2.get l=S.get l
structure Wk(K:Frag)(J:It)(ds:List D)(lks:List Nat)(ι:List Addr)(H:Hp)(S:R.St):Prop where
 go:∀(i:Nat)(ι2:List Addr)(H2:Hp)(S2:R.St),Ltr K ι H S lks ι2 H2 S2->i<ds.length->J.go i H2
 yld:∀(i:Nat)(ι2:List Addr)(H2:Hp)(S2:R.St)(x:V)(H':Hp),Ltr K ι H S lks ι2 H2 S2->i<ds.length->J.yld i H2 x H'->Ext ι2 H2 ι2 H'/\RH K ι2 H' S2/\∃d,ds[i]?=Φ d/\RV K ι2 H' d x
 stop:∀(i:Nat)(ι2:List Addr)(H2:Hp)(S2:R.St),Ltr K ι H S lks ι2 H2 S2->ds.length<=i->J.stop i H2
 lks:∀l∈lks,l<S.len
def LfI(K:Frag)(ι:List Addr)(H:Hp)(Q:List D×List Nat->R.St->Prop)(J:It)(H':Hp):Prop:=∃d b a c,Ext ι H a H'/\RH K a H' c/\Q (d,b) c/\Wk K J d b a H' c
def tI(K:Frag)(cf:CF)(cl:CL):TI:=λd H R=>∃b a S Q,RS K a H b d/\RH K a H S/\W (evL cf cl b S) Q/\∀J c,LfI K a H Q J c->R J c
theorem PI.imp(h:PI X c e t)(i:∀a H Q,t' a H Q->t a H Q):PI X c e t':=λb s a H Q I q=>h b s a H Q I (i a H Q q)
def iSeq(K:Frag)(tl:TE):TI:=λd H R=>tl d H λx b=>∃a,x=.ref a/\(((∃c,SqL K b a c)/\R (Itl K a) b)\/((∃c,SqT K b a c)/\R (Itt K a) b))
section
variable{T:Tab}{cf:CF}{k:Nat}{N:List Str}{sc:Scope}{X:Cx}{pos p:Pos}{tg:Expr}
theorem zpU(t:PE X l tl):PI X tg l (iSeq X.K tl):=by
 intro f s u H R I h;refine thn (t f s u H _ I h) λv c z=>?_;obtain⟨x,r,d,w,i⟩:=z;obtain⟨a,rfl,i⟩:=i;cases w;rcases i with⟨⟨y,j⟩,q⟩|⟨⟨y,j⟩,q⟩;obtain⟨g,A,m,B⟩:=d.list j;refine wpAny_pyIter_list m.isList ?_;refine⟨c.heap.objs.size,[c.heap.objs.size],_,_,r,rfl,d.kept (t':=c.toks) λb o e=>Ω _ e,ziH a _,⟨_,Ι _ rfl,rfl,rfl⟩,λb n=>?_,q⟩;have e:b=c.heap.objs.size:=by simpa using n
 subst e;exact d.fpOk (le_refl _) (d.hok.fresh (le_refl _));obtain⟨g,A,m,B⟩:=d.tuple j;refine wpAny_pyIter_tuple (show c.heap.IsTuple a g.toArray from m) ?_;refine⟨c.heap.objs.size,[c.heap.objs.size],_,_,r,rfl,d.kept (t':=c.toks) λb o e=>Ω _ e,zhH a _,⟨_,Ι _ rfl,rfl,rfl⟩,λb n=>?_,q⟩;have e:b=c.heap.objs.size:=by simpa using n
 subst e;exact d.fpOk (le_refl _) (d.hok.fresh (le_refl _))
theorem zgb{K:Frag}{ι:List Addr}{H:Hp}{S:R.St}{a:Addr}{ds:List D}{lks:List Nat}(hl:∀l∈lks,l<S.len)
  (h:∀ι2 H2 S2,Ltr K ι H S lks ι2 H2 S2->∃xs,SqL K H2 a xs/\RVs K ι2 H2 ds xs/\∀ys,SqL K H2 a ys->True):Wk K (Itl K a) ds lks ι H S where
 go:=λi ι2 H2 S2 lt hi=>by obtain⟨xs,hq,rr,_⟩:=h ι2 H2 S2 lt;exact⟨xs,xs[i]'(by rw[rr.length];exact hi),hq,Ε _⟩
 yld:=λi ι2 H2 S2 x H' lt hi y=>by obtain⟨xs,hq,rr,_⟩:=h ι2 H2 S2 lt;obtain⟨rfl,y⟩:=y;obtain⟨d,e,r⟩:=rr.get' (y xs hq);exact⟨Ext.refl _ _,lt.rh,d,e,r⟩
 stop:=λi ι2 H2 S2 lt hi=>by obtain⟨xs,hq,rr,_⟩:=h ι2 H2 S2 lt;exact⟨xs,hq,by rw[rr.length];exact hi⟩
 lks:=hl
theorem zoK{K:Frag}{ι:List Addr}{H:Hp}{S:R.St}{a:Addr}{ds:List D}{lks:List Nat}{xs:List V}(hl:∀l∈lks,l<S.len)(e:H a=Φ (.tup xs))(rr:RVs K ι H ds xs):Wk K (Itt K a) ds lks ι H S where
 go:=λi ι2 H2 S2 lt hi=>⟨xs,xs[i]'(by rw[rr.length];exact hi),SqT.of (lt.ext.kp.tups _ _ e),Ε _⟩
 yld:=λi ι2 H2 S2 x H' lt hi y=>by obtain⟨rfl,y⟩:=y;obtain⟨d,e,r⟩:=(rr.ext lt.ext).get' (y xs (SqT.of (lt.ext.kp.tups _ _ e)));exact⟨Ext.refl _ _,lt.rh,d,e,r⟩
 stop:=λi ι2 H2 S2 lt hi=>⟨xs,SqT.of (lt.ext.kp.tups _ _ e),by rw[rr.length];exact hi⟩
 lks:=hl
theorem zmc(C:PE X e (tL X.K cf cl))(u:∀{δ:Ev}{S:R.St}{Q:List D×List Nat->R.St->Prop},W (evL cf cl δ S) Q->W (evL cf cl δ S) λr S'=>(∀l∈r.2,l<S'.len)/\Q r S'):PI X tg e (tI X.K cf cl):=by refine PI.imp (zpU C) λσ H R z=>?_;obtain⟨δ,ι,S,Q,E,G,w,q⟩:=z;refine tL.run E G (u w) λm c v d H1 o s I f J i=>?_;obtain⟨t,i⟩:=i;obtain⟨a,j,rfl,x,L⟩:=J;refine⟨a,rfl,?_⟩;cases L with|tmp h e=>exact .inl ⟨⟨j,SqL.of e⟩,q _ _ ⟨m,c,d,o,s,f,i,zgb t λn y A g=>⟨j,SqL.of (g.ext.keep h e (by simp)),x.ext g.ext,λ_ _=>trivial⟩⟩⟩|fix e=>exact .inl ⟨⟨j,e.sq⟩,q _ _ ⟨m,c,d,o,s,f,i,zgb t λn y A g=>⟨j,(e.kp g.ext.kp).sq,x.ext g.ext,λ_ _=>trivial⟩⟩⟩|tup e=>exact .inr ⟨⟨j,SqT.of e⟩,q _ _ ⟨m,c,d,o,s,f,i,zoK t e x⟩⟩| own l M O U e=>refine .inl ⟨⟨j,SqL.of e⟩,q _ _ ⟨m,c,d,o,s,f,i,zgb t λn y A g=>?_⟩⟩;obtain⟨b,B,Y,hz,rz⟩:=g.rh.obj l (.lst m) ((g.lck l M).trans U);rw[zci g.ext.pre O]at B;cases B;exact⟨Y,SqL.of hz,rz,λ_ _=>trivial⟩
theorem zqA(h:W (evL cf (.val b) δ S) Q):W (evL cf (.val b) δ S) λr S'=>(∀l∈r.2,l<S'.len)/\Q r S':=by
 change W (Out.bind _ _) _ at h⊢;simp only[zab] at h⊢;refine h.mono λx g c=>?_;obtain⟨i,e,d⟩:=zau c;rw[e];refine⟨λl a=>?_,d⟩;cases x with
 |ref j=>simp[lkOf]at a;subst a;simp only[zct]at e;split at e;rename_i f;exact get_lt f;exact nS e
 |_=>simp[lkOf]at a
theorem zn4(h:W (evL cf (.comp n b g it c e) δ S) Q):W (evL cf (.comp n b g it c e) δ S) λr S'=>(∀l∈r.2,l<S'.len)/\Q r S':=by change W (Out.bind _ _) _ at h⊢;simp only[zab] at h⊢;refine h.mono λi j d=>d.mono λr m a=>?_;split at a;rename_i c;rw[if_pos c];exact⟨λl f=>by simp at f,a⟩;exact a.elim
theorem zgN{K:Frag}{ι:List Addr}{H:Hp}{S:R.St}(lo:Int)(n:Nat):Wk K (Itr lo n) ((List.range n).map λ(j:Nat)=>D.int (lo+j)) [] ι H S where
 go:=λi ι2 H2 S2 lt hi=>by show i<n;simpa using hi
 yld:=λi ι2 H2 S2 x H' lt hi y=>by
  obtain⟨rfl,rfl⟩:=y;have hi:i<n:=by simpa using hi
  exact⟨Ext.refl _ _,lt.rh,.int (lo+i),by simp[hi],rfl⟩
 stop:=λi ι2 H2 S2 lt hi=>by show n<=i;simpa using hi
 lks:=λl hl=>by simp at hl
theorem zm9(i:Gl X "range"/\X.mg "range"=Ψ)(l:PE X a (tE X.K cf m))(f:zai a=Γ):PI X tg (.Call (.Name "range" p) [a] [] pos) (tI X.K cf (.rng1 m)):=by
 refine PI.imp (zjl i.1 i.2 (zaA l f) (zaj f [] X.env)) λx H R z=>?_;obtain⟨y,A,S,Q,n,o,w,q⟩:=z;change W (Out.bind _ _) _ at w;simp only[zab] at w;refine tE.run n o w λd v g B r s t h u b=>?_;cases d with
 |int j=>
  obtain rfl:v=.int j:=u;dsimp only at b;split at b;rename_i c;have e:((List.range j.toNat).map λ(k:Nat)=>D.int k)=(List.range j.toNat).map λ(k:Nat)=>D.int (0+k):=by simp
  rw[e]at b;exact⟨j,rfl,c.1,c.2,q _ _ ⟨_,[],g,r,s,h,b,zgN 0 j.toNat⟩⟩;exact b.elim
 |_=>exact b.elim
theorem zm8(r:Gl X "range"/\X.mg "range"=Ψ)(s:PE X a (tE X.K cf t))(x:PE X b (tE X.K cf y))(g:zai a=Γ)(f:zai b=Γ):PI X tg (.Call (.Name "range" p) [a,b] [] pos) (tI X.K cf (.rng2 t y)):=by refine PI.imp (zjk r.1 r.2 (zdt s (zaA x f) (zaj g [b] X.env)) (by rw[zaj g,zaj f];rfl) (zaj f [] X.env)) λU H R z=>?_;obtain⟨Y,ι,S,Q,A,B,w,q⟩:=z;change W (Out.bind _ _) _ at w;simp only[zab] at w;refine tE.run A B w λd v C H1 S1 E l m G I=>tE.run l m I λe u n H2 J L M o O h=>?_;split at h;rename_i i j;obtain rfl:v=.int i:=G;obtain rfl:u=.int j:=O;split at h;rename_i c;exact⟨i,j,rfl,c,q _ _ ⟨_,[],n,J,E.trans L,o,h,zgN i (j-i).toNat⟩⟩;exact h.elim;exact h.elim
theorem za7{g:List Addr}(I:Inv X a σ H s)(k:∀b o,b∉g->s.heap.get? b=Φ o->h'.get? b=Φ o)(h:∀b∈g,FpOk X a H b):Inv X a σ H {s with heap:=h',toks:=t'}:=by
 have f:∀b u,H b=Φ u->b∉g:=λb u e z=>by rw[(h b z).1]at e;exact nS e
 refine I.step (g':=s.gens) (d':=s.drawn) (ch:=g) (λb i=>?_) (λb o _ _ d e _=>k b o d e) (λb o _ _ d e _=>⟨o.slots,k b o d e⟩) (λ_ _ _ _ n=>n)
  (λb o d e=>⟨o,k b o d e⟩) (λ_ _ e=>e) (λ_ _ _ e=>e) (λb C e=>⟨#[],by rw[e];simp⟩) (λm j=>?_) (λb u e=>?_) I.bare
 obtain⟨E,l,G,t,w,x⟩:=h b i;exact⟨t,l,w,x⟩;obtain⟨o,y,A,B,r⟩:=j;exact⟨o,y,A,k _ o (λz=>(h _ z).2.1 rfl) B,r⟩;refine(I.hok b u e).stay (λc v d q=>k c v ?_ q) (λ_ q=>q) λ_ _ q=>q;rcases d with z|z;rw[z];exact f b u e;exact f c _ z
def tG(K:Frag)(f:List Nat):TG:=λv g H h=>∃e c d a,RS K c H e g/\RV K c H d v/\asgG f d e=Φ a/\∀b,RS K c H a b->h b H
def tGs(K:Frag)(d:List Nat):TGs:=λf g H h=>∃e b c,RS K b H e g/\RVs K b H c f/\c.length=d.length/\∀a,RS K b H (zez d c e) a->h a H
theorem PG.imp(h:PG X tg t)(i:∀v a H Q,t' v a H Q->t v a H Q):PG X tg t':=λb s a H v u Q I r q=>h b s a H v u Q I r (i v a H Q q)
theorem PGs.imp(h:PGs X es t)(i:∀v a H Q,t' v a H Q->t v a H Q):PGs X es t':=λb s a H v u Q I r q=>h b s a H v u Q I r (i v a H Q q)
theorem znb(G:Gd T cf k N sc X)(b:N[i]?=Φ x)(a:zfG sc x=Γ):PG X (.Name x pos) (tG X.K [i]):=by refine PG.imp (zjm (by rw[G.nm];exact G.nd) (by rw[G.nm];exact b) (G.lc a).1 (G.lc a).2) λv g H h z=>?_;obtain⟨j,l,d,c,f,r,e,q⟩:=z;cases e;exact q _ (f.set r i)
noncomputable def zcc(sc:Scope)(N:List Str):List Nat->List Expr->Bool
 | [],[]=>Γ|i::a,.Name x _::b=>(N[i]?==Φ x)&&zfG sc x&&zcc sc N a b|_,_=>Δ
theorem zfi(G:Gd T cf k N sc X):∀{b:List Nat}{es:List Expr},zcc sc N b es=Γ->PGs X es (tGs X.K b)/\(assignEach es X.env).length=b.length/\(assignEach es X.env).findIdx? (·.1)=Ψ
 | [],[],_=>⟨PGs.imp znL λv l H o z=>by
  obtain⟨m,n,a,f,r,c,q⟩:=z
  have:a=[]:=by simpa using c
  subst this;exact⟨r,q l (by simpa[zez]using f)⟩,rfl,rfl⟩
 |[],_::_,h=>nB h|_::_,[],h=>nB h| i::b,e::es,h=>by
  cases e with
  |Name x pos=>
   simp only[zcc,Α,beq_iff_eq]at h;obtain⟨s,t,u⟩:=zfi G h.2;refine⟨PGs.imp (zln (zjm (by rw[G.nm];exact G.nd) (by rw[G.nm];exact h.1.1) (G.lc h.1.2).1 (G.lc h.1.2).2) s) λv l H o ⟨m,n,a,f,r,c,q⟩=>?_,?_,?_⟩;cases a with|nil=>simp at c| cons d a=>obtain⟨w,y,rfl,A,B⟩:=r;exact⟨w,y,rfl,⟨m.set i (Φ d),n,a,f.set A i,B,by simpa using c,λg j=>q g (by simpa[zez]using j)⟩⟩
   show((Δ,_)::assignEach es X.env).length=_;simp[t];show((Δ,_)::assignEach es X.env).findIdx? _=_;simp[List.findIdx?_cons,u]
  |_=>simp[zcc]at h
theorem zlZ(h2:2<=is.length)(e:asgG is d δ=Φ δ'):∃ds,d=.tup ds/\ds.length=is.length/\δ'=zez is ds δ:=by
 match is,h2 with
 |a::b::t,_=>
  cases d with
  |tup ds=>simp only[asgG]at e;split at e;rename_i c;cases e;exact⟨ds,rfl,c,rfl⟩;exact nS e
  |_=>exact nS e
theorem zmd(G:Gd T cf k N sc X)(h:zcc sc N f es=Γ)(i:2<=f.length):PG X (.Tuple es j pos) (tG X.K f):=by obtain⟨l,m,b⟩:=zfi G h;refine PG.imp (zpV G.calm l m b) λv y H A z=>?_;obtain⟨n,o,d,s,t,r,e,q⟩:=z;obtain⟨u,rfl,c,rfl⟩:=zlZ i e;obtain⟨a,w,rfl,x,g⟩:=r;exact⟨a,w,rfl,SqT.of x,by rw[g.length];exact c,n,o,u,t,g,c,q⟩
theorem Ext.tmp{p}(x:Ext ι H j H')(c:H p=Ψ)(e:H' p=Φ (.lst vs)):Ext ι H j (upd H' p (.lst us)):=by refine⟨x.pre,x.kp.trans (.same (Tups.upd_lst e) (λb o u h=>?_) λb i h=>?_),λb o d a=>?_⟩;rw[zak];exact h;rintro rfl;rw[e]at h;cases h;rw[zak];exact h;rintro rfl;rw[e]at h;cases h;obtain⟨f,g⟩:=x.rest b o d a;refine⟨?_,g⟩;rw[zak];exact f;rintro rfl;rw[c]at a;exact nS a
theorem Kp.tmp{p}(e:H p=Φ (.lst vs)):Kp H (upd H p (.lst us)):=.same (Tups.upd_lst e) (λb o u h=>by
 rw[zak];exact h;rintro rfl;rw[e]at h;cases h) λb a h=>by
 rw[zak];exact h;rintro rfl;rw[e]at h;cases h
theorem RH.tmp{K}{p}(b:RH K ι H S)(c:p∉ι)(e:H p=Φ (.lst vs)):RH K ι (upd H p (.lst us)) S:=⟨b.len,b.nd,λl o q=>by obtain⟨a,d,f,g⟩:=b.mem q;exact⟨a,d,f.up (prefix_refl _) (Kp.tmp e) (zak λz=>c (z▸g))⟩,(Kp.tmp e).tab b.tab⟩
theorem RS.up{K}(h:RS K ι H δ a)(b:ι <+: ι')(c:Kp H H'):RS K ι' H' δ a:=⟨h.1,λi d e=>let ⟨v,f,r⟩:=h.2 i d e;⟨v,f,r.up b c⟩⟩
theorem RH.lk{K}(a:RH K ι H S)(ks):RH K ι H {S with lk:=ks}:=⟨a.len,a.nd,λl o e=>a.obj l o e,a.tab⟩
theorem RS.csl{K}(h:RS K ι H δ g)(a)(b):RS K ι H (R.csl a b δ) (L2.csl a b g):=by
 refine⟨by simp[R.csl,L2.csl],λi d e=>?_⟩;unfold R.csl at e;unfold L2.csl;by_cases c:i<a;rw[getElem?_append_left (by simpa using c),List.getElem?_replicate]at e;rw[if_pos c]at e;cases e;rw[getElem?_append_right (by simpa using c)]at e⊢;simp only[length_replicate,getElem?_map]at e⊢;cases f:b[i-a]? with
 |none=>rw[f]at e;exact nS e
 |some j=>
  rw[f]at e;simp only[Option.map_some,Option.some.injEq]at e⊢;have l:δ[j]?=Φ (Φ d):=by
   cases z:δ[j]? with
   |none=>rw[z]at e;exact nS e
   |some o=>rw[z]at e;simp at e;rw[e]
  obtain⟨v,m,r⟩:=h.2 j d l;exact⟨v,by rw[m];rfl,r⟩
theorem zfS{a:Type}{xs:List a}{x}(h:xs[i]?=Φ x):xs.drop i=x::xs.drop (i+1):=by obtain⟨b,c⟩:=Β.mp h;rw[List.drop_eq_getElem_cons b,c]
def CInv(K:Frag)(cf:CF)(g:List Nat)(c e:CE)(Q:List D×List Nat->R.St->Prop)(n:List D)(f:List Nat)(l:List Addr)(q:Hp)(S1:R.St)(p:Addr)(i:Nat)(m:L2.St)(H':Hp):Prop:=
 i<=n.length/\∃h a j d o,RS K a H' h m/\Ltr K l q S1 f a H' j/\j.lk=f++S1.lk/\S1.len<=j.len/\p∉a/\H' p=Φ (.lst o)/\RVs K a H' d o/\
  W (zax g (evT cf c) (evE cf e) (n.drop i) h j) λb r=>(d++b).length<=16777216/\Q (d++b,[]) {r with lk:=S1.lk}
theorem zhx(hcf:CFok cf)(h:tLt X.K cf (.comp nt js is it c e) σ H Qv):zmZ nt js (tI X.K cf it) (tG X.K is) (tT X.K cf c) (tE X.K cf e) σ H Qv:=by
 obtain⟨δ,ι,S,Q,hs,hh,w,q⟩:=h;change W (Out.bind _ _) _ at w;simp only[zab] at w;refine⟨δ,ι,S,_,hs,hh,w,λJ H1 k=>?_⟩;obtain⟨ds,a,G,y,x1,I,w1,wk⟩:=k;unfold zbg at w1;rw[zab]at w1;intro p M;have hpi:=I.fresh M;refine⟨λi m σ' H'=>m=ds.length-i/\CInv X.K cf is c e Q ds a G H1 y p i σ' H',⟨_,rfl,zero_le _,R.csl nt js δ,G,{y with lk:=a++y.lk},[],[],((hs.ext x1).csl _ _).up (prefix_refl _) (Kp.new M _),⟨Ext.new M _,(I.lk _).new M _,λl _=>rfl⟩,rfl,le_refl _,hpi,zao,rfl,?_⟩,?_⟩;refine w1.mono λA S2 w2=>?_;simp only[W_ok]at w2;split at w2;rename_i c;exact⟨by simpa using c,by simpa using w2⟩;exact w2.elim;rintro i m σ' H' ⟨rfl,hle,δ',g,O,s,vs,hs',B,hlk,hln,t,hpv,ra,r⟩;rcases Nat.lt_or_eq_of_le hle with u|rfl;refine .inr ⟨wk.go i g H' O B u,CInv X.K cf is c e Q ds a G H1 y p (i+1),λσ2 H2 h=>⟨_,by lia,rfl,h⟩,λx H2 hy=>?_⟩;obtain⟨U,hh2,d,hd,rd⟩:=wk.yld i g H' O x H2 B u hy;have hs2:=hs'.ext U;have hp2:=U.keep t hpv (by simp);rw[zfS hd]at r;simp only[zax]at r;cases ea:asgG is d δ' with
 |none=>rw[ea]at r;exact r.elim| some j=>
  rw[ea]at r;rw[zab]at r;refine⟨δ',g,d,j,hs2,rd,ea,λσ2 hs3=>?_⟩;refine tT.run hs3 hh2 ((frT hcf c j O).w r) λb ι3 H3 S3 Y hs4 hh3 w3=>?_;obtain⟨w3,f3⟩:=w3;have L:=Y.keep t hp2 (by simp);have n:=(Y.rest p _ t hp2).2;have C:∀{S4:R.St},Frm O S4->S4.lk=a++y.lk/\y.len<=S4.len/\∀l∈a,S4.get l=y.get l:=λf=>⟨f.lk.trans hlk,le_trans hln f.lens,λl hl=>(f.same l (by rw[hlk];exact mem_append_left _ hl) (lt_of_lt_of_le (wk.lks l hl) hln)).trans (B.lck l hl)⟩;cases b with
  |false=>obtain⟨k1,k2,k3⟩:=C f3;exact⟨u,j,ι3,S3,s,vs,hs4,⟨(B.ext.trans U).trans Y,hh3,k3⟩,k1,k2,n,L,(ra.ext U).ext Y,w3⟩| true=>
   simp only[if_true]at w3⊢;rw[zab]at w3;refine tE.run hs4 hh3 ((frE hcf e j S3).w w3) λz v ι4 H4 S4 x4 hs5 hh4 rz w4=>?_;obtain⟨w4,f4⟩:=w4;obtain⟨k1,k2,k3⟩:=C (f3.trans f4);have o:=x4.keep n L (by simp);have E:=(x4.rest p _ n L).2;rw[zab]at w4;have ra4:=((ra.ext U).ext Y).ext x4;have hlen:s.length<16777216:=by obtain⟨A,S5,_,w5⟩:=ziv w4;have:=w5.1;simp at this;lia
   refine⟨vs,o,by rw[ra4.length];exact hlen,u,j,ι4,S4,s++[z],vs++[v],hs5.up (prefix_refl _) (Kp.tmp o),⟨(((B.ext.trans U).trans Y).trans x4).tmp M o,hh4.tmp E o,k3⟩,k1,k2,E,zao,?_,?_⟩;exact(RVs.append (es:=[z]) ra4 ⟨v,[],rfl,rz,rfl⟩).up (prefix_refl _) (Kp.tmp o);refine w4.mono λA S5 w5=>?_;simpa using w5
 refine .inl ⟨wk.stop _ g H' O B (le_refl _),?_⟩;rw[List.drop_length]at r;simp only[zax,W_ok,append_nil]at r;exact q _ _ ⟨s,g,{O with lk:=y.lk},p,vs,x1.trans B.ext,rfl,ra,t,hpv,B.rh.lk _,zkC I x1 M,r.2⟩
noncomputable def Ite(K:Frag)(a:Addr):It:=
 ⟨λi H=>∃b x,SqL K H a b/\b[i]?=Φ x,
  λi H v c=>∃T x,H T=Ψ/\v=.ref T/\c=upd H T (.tup [.int i,x])/\∀b,SqL K H a b->b[i]?=Φ x,
  λi H=>∃b,SqL K H a b/\b.length<=i⟩
theorem ziI{P:Τ}{w:ϐ}{K:Frag}{es:List Expr}{j:Nat}{pt:Pos}{e it a:Addr}(r:e≠it):Turn P w K (.Tuple es j pt) (Ite K a) [e,it] e
  (λi h=>(∃g,IsEnum h e it i g)/\h.IsListIter it a i) where
 mem:=by simp
 obj:=λi h st c d=>by obtain⟨⟨g,m⟩,⟨o4,B,_,d4⟩⟩:=st;simp only[mem_cons,not_mem_nil,or_false]at d;rcases d with rfl|rfl;exact⟨_,m,λv z=>by cases z⟩;exact⟨_,B,λv z=>by rw[d4]at z;cases z⟩
 keep:=λi h h' st k=>by obtain⟨⟨g,m⟩,B⟩:=st;exact⟨⟨g,k e (by simp) _ m⟩,B.at λo x=>k it (by simp) o x⟩
 item:=by
  intro X C G J d i l s σ H E I L st M;subst C G J;obtain⟨xs,x,y,hx⟩:=M;obtain⟨xv,O,Q,_⟩:=I.list y;obtain⟨u,hu,ru⟩:=O.get hx;obtain⟨⟨g,A⟩,m⟩:=st;refine wpAny_pyNext_enum_item A m Q.isList (x:=u) (by simpa using hu) r λh' a1 a3 a5 a6 U=>?_;have hn:=I.hok.fresh (le_refl _);have I1:Inv X l σ (upd H s.heap.objs.size (.tup [.int i,x])) {s with heap:=s.heap.push {cls:=.type "tuple",data:=.seq #[.int i s.toks,u]},toks:=s.toks+1}:=I.laid (t':=s.toks+1) (λb u e=>Ω _ e) (le_refl _) ⟨by rw[ϔ];simp,[.int i s.toks,u],.cons ⟨_,rfl⟩ (.cons ru .nil),⟨_,Ι _ rfl,rfl,_,rfl⟩⟩;have lt:∀{c o},s.heap.get? c=Φ o->c≠s.heap.objs.size:=λe=>ne_of_lt (Κ e);have nf:∀c∈[e,it],c≠s.heap.objs.size:=by intro c d;simp only[mem_cons,not_mem_nil,or_false]at d;rcases d with rfl|rfl;exact lt A;obtain⟨o,z,_⟩:=m;exact lt z
  have n:∀c∈[e,it],FpOk X l (upd H s.heap.objs.size (.tup [.int i,x])) c:=λc d=>by obtain⟨f0,f⟩:=L c d;exact⟨by rw[zak (nf c d)];exact f0,f⟩
  have two:∀{c:Addr},¬c∈[e,it]->c≠e/\c≠it:=λ{c} d=>by simp only[mem_cons,not_mem_nil,or_false,not_or]at d;exact d
  have k2:∀c o,¬c∈[e,it]->(s.heap.push {cls:=.type "tuple",data:=.seq #[.int i s.toks,u]}).get? c=Φ o->h'.get? c=Φ o:=λc o d z=>by by_cases hs:c=s.heap.objs.size;subst hs;have e2:(s.heap.push {cls:=.type "tuple",data:=.seq #[.int i s.toks,u]}).get? s.heap.objs.size=_:=Ι _ rfl;rw[e2]at z;cases z;exact a5;exact U c o (two d).1 (two d).2 ((Heap.get?_push_ne _ _ _ hs).symm.trans z)
  have I2:=za7 (s:={s with heap:=s.heap.push {cls:=.type "tuple",data:=.seq #[.int i s.toks,u]},toks:=s.toks+1}) (h':=h') (t':=s.toks+1) I1 k2 n;refine⟨_,rfl,?_⟩;refine wpAny_letOwnedTupleGo_enum a1 λh2' Y t=>?_;refine⟨.ref s.heap.objs.size,upd H s.heap.objs.size (.tup [.int i,x]),za7 (t':=s.toks+1) I2 (λc o d z=>t.extBut _ _ (two d).1 z) n,rfl,⟨_,x,hn,rfl,rfl,λxs' hx'=>by rw[I.list_inj hx' y];exact hx⟩,
   ⟨⟨_,Y⟩,a3.extBut t.extBut (Ne.symm r)⟩,λc d=>(n c d).1⟩
 done:=by intro X C G J d i l s σ H E I L st M;subst C G J;obtain⟨xs,y,hl⟩:=M;obtain⟨xv,O,Q,_⟩:=I.list y;obtain⟨⟨g,A⟩,m⟩:=st;have l1:=O.length;refine wpAny_pyNext_enum_end (I.ok.hd d) A m Q.isList (by simp;lia) λh' U=>⟨rfl,za7 (t':=s.toks) I (λc o d z=>U c o (λq=>d (by simp[q])) z) L⟩
 self:=λ_ _ _ _ _ st h=>wpAny_pyIter_enum st.1.choose_spec h
theorem zmQ{K}(o:S.get l=Φ (.lst ds))(t:ι[l]?=Φ a):Wk K (Ite K a) (ds.mapIdx λi d=>zcx (.int i) d) [l] ι H S:=by
 have g:∀{b f m},Ltr K ι H S [l] b f m->∃c,SqL K f a c/\RVs K b f ds c:=λ{b f m} e=>by obtain⟨C,q,c,h,j⟩:=e.rh.obj l (.lst ds) ((e.lck l (by simp)).trans o);rw[zci e.ext.pre t]at q;cases q;exact⟨c,SqL.of h,j⟩
 refine⟨λi b f m e n=>?_,λi b f m x E e n y=>?_,λi b f m e n=>?_,λk v=>?_⟩;obtain⟨c,h,j⟩:=g e;rw[length_mapIdx]at n;have w:=j.length;exact⟨c,c[i]'(by lia),h,Ε _⟩;obtain⟨c,h,j⟩:=g e;obtain⟨T,u,r,rfl,rfl,z⟩:=y;obtain⟨d,A,B⟩:=j.get' (z c h);have s:Ext b f b (upd f T (.tup [.int i,u])):=Ext.new r _;refine⟨s,e.rh.new r _,zcx (.int i) d,by rw[List.getElem?_mapIdx,A];rfl,?_⟩;exact⟨T,[.int i,u],rfl,zao,.int i,[u],rfl,rfl,u,[],rfl,B.ext s,rfl⟩;obtain⟨c,h,j⟩:=g e;rw[length_mapIdx]at n;have w:=j.length;exact⟨c,h,by lia⟩;cases mem_singleton.mp v;exact get_lt o
end
end R
namespace R
open PySem PySem.Spec PyProof.Rows L2
open AutoSeq1 (wpAny_loadPart')
section
variable{prog:Τ}{w:ϐ}{A:ϑ}{E:Λ->Η->Prop}{s:Η}
theorem zh3(a:s.heap.IsTupleIter it t i)(f:s.heap.IsTuple t items)(g:items[i]?=Φ x)(h:∀h',h'.IsTupleIter it t (i+1)->Heap.SameBut it s.heap h'->Q x {s with heap:=h'}):wpAny (model prog w) A (Builtin.SmallTypes.nextOf (.ref it)) Q E s:=by
 obtain⟨o,c,j,b⟩:=id a;obtain⟨k,d,_,l,e⟩:=f;refine Θ (Ϛ a.typeIs PySem.F.slot_tuple_iterator_next
  (ύ PySem.F.slot_tuple_iterator_next a.typeIs PySem.F.entry_tuple_iterator_next ?_ (PySem.F.args_tuple_iterator_next_1 _)))
 show wpAny _ _ (field (.ref it) 0>>=_) _ _ s;refine Θ (ϯ c b rfl ?_);refine Θ (ϯ c b rfl ?_);refine Θ (ϥ d e ?_);simp only[ϡ,g];refine Θ (wpAny_setField c b (by simp) (Ξ ⟨x,rfl,Ξ (h _ ?_ (Heap.SameBut.update ..))⟩));exact⟨_,Heap.get?_update_self _ c (Obj.isFreed_of_fields (Obj.data_mapFields b _)),(Obj.cls_mapFields ..).trans j,by
  rw[Obj.data_mapFields b];simp[rawInt]⟩
theorem zfw(g:A.handled=Ψ)(a:s.heap.IsTupleIter it t i)(h:s.heap.IsTuple t items)(j:items[i]?=Ψ)(k:∀h' e,Heap.ExtBut it s.heap h'->(∃o,h'.get? e=Φ o/\o.cls=.type "StopIteration")->E (.ref e) {s with heap:=h'}):wpAny (model prog w) A (Builtin.SmallTypes.nextOf (.ref it)) Q E s:=by
 obtain⟨o,b,l,c⟩:=id a;obtain⟨m,d,_,n,f⟩:=h;refine Θ (Ϛ a.typeIs PySem.F.slot_tuple_iterator_next
  (ύ PySem.F.slot_tuple_iterator_next a.typeIs PySem.F.entry_tuple_iterator_next ?_ (PySem.F.args_tuple_iterator_next_1 _)))
 show wpAny _ _ (field (.ref it) 0>>=_) _ _ s;refine Θ (ϯ b c rfl ?_);refine Θ (ϯ b c rfl ?_);refine Θ (ϥ d f ?_);simp only[ϡ,j]
 first|refine Θ (Ϭ (Θ (wpAny_setField b c (by simp) ?_)))|refine Θ (wpAny_setField b c (by simp) ?_)
 refine Θ ?_;refine Θ (ό ?_ (by size_fits));refine Θ (wpAny_of_eq (by first|rfl|(rfl)) ?_);refine ό ?_ (by size_fits);refine Θ (wpAny_handled ?_)
 first|rw[show A.in1.handled=Ψ from g]|rw[g]
 exact Θ (Ξ (wpAny_throw (k _ _ (((Heap.SameBut.update ..).extBut.push _).push _) ⟨_,Ι _ rfl,rfl⟩)))
end
theorem zkh{i:Nat}(h:A.handled=Ψ)(f:IsEnum s.heap e it i j)(a:s.heap.IsTupleIter it t i)(k:s.heap.IsTuple t items)(l:items[i]?=Ψ)(m:∀h',Heap.ExtBut it s.heap h'->Q Ψ {s with heap:=h'}):wpAny (model prog w) A (pyNext (.ref e)) Q E s:=by
 have g:s.TypeIs (.ref e) "enumerate":=⟨_,f,rfl⟩;refine Θ (wpAny_attempt (Ϛ g PySem.F.slot_enumerate_next
  (ύ PySem.F.slot_enumerate_next g PySem.F.entry_enumerate_next ?_ (PySem.F.args_enumerate_next_1 _))))
 show wpAny _ _ (field (.ref e) 2>>=_) _ _ _;refine Θ (ϯ f rfl rfl ?_);refine Θ (zfw h a k l λh' x c d=>?_);obtain⟨o,n,p⟩:=d;exact Θ (ϭ (T:="StopIteration") (b:=Γ) ⟨o,n,p⟩ isSubtype_stop (Ξ (m _ c)))
theorem zq0{prog:Τ}{w:ϐ}{A:ϑ}(hh:A.handled=Ψ)(it l:Addr)(hne:l≠it)(items:Array Λ) :
  Draws prog w A it [it,l] items.size (λi v=>items[i]?=Φ v) (λi h=>h.IsTupleIter it l i/\h.IsTuple l items) where
 live:=λ_ _ st=>let ⟨o,ho,_⟩:=st.1;⟨o,ho⟩
 frame:=λ_ _ _ st hk=>⟨let ⟨o,ho,r⟩:=st.1;⟨o,hk it (by simp) o ho,r⟩,let ⟨o,ho,r⟩:=st.2;⟨o,hk l (by simp) o ho,r⟩⟩
 item:=λi s Q E hi st hQ=>by refine zh3 st.1 st.2 (x:=items[i]) (by simp[hi]) λh' hit' hs'=>?_;exact hQ _ h' s.toks (by simp[hi]) ⟨hit',st.2.extBut hs'.extBut hne⟩ hs'
 done:=λs Q E st hE=>zfw hh st.1 st.2 (by simp) hE
theorem zkg(l)(items)(n)(b)(i):
  Meets (Builtin.«enumerate.__new__» ⟨[.type "enumerate",.ref l],[]⟩) (λ_ R s=>s.heap.get? l=Φ {cls:=.type "tuple",dict:=b,data:=.seq items n,slots:=i}/\
   R (.ok (.ret (.ref (s.heap.push {cls:=.type "tuple_iterator",data:=.fields #[.ref l,.int 0 0]}).objs.size)))
    {s with heap:=(s.heap.push {cls:=.type "tuple_iterator",data:=.fields #[.ref l,.int 0 0]}).push {cls:=.type "enumerate",data:=.fields #[.none,.bool Δ,.ref s.heap.objs.size,rawInt 0,.none,.none]}}):=
 .of_wp λprog w A R s h=>by
  obtain⟨j,g,d,k,os⟩:=s;obtain⟨a,h⟩:=h;have f:=sub_enumerate;have e:Heap.IsTuple (Η.heap ⟨j,g,d,k,os⟩) l items:=⟨_,a,rfl,n,rfl⟩
  wp_walk using wpAny_loadPart' a
  refine wpAny_stack_any λst=>Ξ ?_;split;rename_i c _ _ _ _ _;cases(c==Λ.type "enumerate")
  . wp_walk using wpAny_loadPart' a,wpAny_pyIter_tuple e
    exact⟨_,rfl,h⟩
  . wp_walk using wpAny_loadPart' a,wpAny_pyIter_tuple e
    exact⟨_,rfl,h⟩
  . wp_walk using wpAny_loadPart' a,wpAny_pyIter_tuple e
    exact⟨_,rfl,h⟩
theorem zir(j:s.heap.IsTuple l items)(h:∀h',IsEnum h' (s.heap.objs.size+1) s.heap.objs.size 0 .none->h'.IsTupleIter s.heap.objs.size l 0->h'.objs.size=s.heap.objs.size+2->
   (∀b o,s.heap.get? b=Φ o->h'.get? b=Φ o)->Q (.ref (s.heap.objs.size+1)) {s with heap:=h'}):
  wpAny (model prog w) A (call (.type "enumerate") [.ref l]) Q E s:=by
 obtain⟨⟨c,a,k,m⟩,p,d,n,e⟩:=j;replace d:c=.type "tuple":=d;replace e:k=.seq items n:=e;subst d e;refine callType_new PySem.F.called_enumerate (by decide) (PySem.F.typeCall_enumerate_1 _) (PySem.F.newCall_enumerate_1 _) (λf=>PySem.F.args_object_init_2 f _) PySem.F.entry_enumerate_new
  (zkg l items n a m) ⟨p,?_⟩
 have g:(s.heap.push {cls:=.type "tuple_iterator",data:=.fields #[.ref l,.int 0 0]}).objs.size=s.heap.objs.size+1:=ϒ ..;show _/\_;rw[g];have i:IsEnum ((s.heap.push {cls:=.type "tuple_iterator",data:=.fields #[.ref l,.int 0 0]}).push
   {cls:=.type "enumerate",data:=.fields #[.none,.bool Δ,.ref s.heap.objs.size,rawInt 0,.none,.none]}) (s.heap.objs.size+1) s.heap.objs.size 0 .none:=by
  have:=Ι (s.heap.push {cls:=.type "tuple_iterator",data:=.fields #[.ref l,.int 0 0]})
   (o:={cls:=.type "enumerate",data:=.fields #[.none,.bool Δ,.ref s.heap.objs.size,rawInt 0,.none,.none]}) rfl
  rw[g]at this;exact this
 refine⟨⟨_,i,rfl⟩,h _ i ⟨_,Ω _ (Ι _ rfl),rfl,rfl⟩ (by rw[ϒ,g]) λb o x=>Ω _ (Ω _ x)⟩
variable[Mks]
section
variable{T:Tab}{cf:CF}{k:Nat}{N:List Str}{sc:Scope}{X:Cx}{pos p:Pos}{tg:Expr}
noncomputable def IteT(K:Frag)(a:Addr):It:=
 ⟨λi H=>∃b x,SqT K H a b/\b[i]?=Φ x,
  λi H v c=>∃T x,H T=Ψ/\v=.ref T/\c=upd H T (.tup [.int i,x])/\∀b,SqT K H a b->b[i]?=Φ x,
  λi H=>∃b,SqT K H a b/\b.length<=i⟩
theorem zhJ{P:Τ}{w:ϐ}{K:Frag}{es:List Expr}{j:Nat}{pt:Pos}{e it a:Addr}(y:e≠it)(O:a≠it)(Q:a≠e):Turn P w K (.Tuple es j pt) (IteT K a) [e,it] e
  (λi h=>(∃l,IsEnum h e it i l)/\h.IsTupleIter it a i) where
 mem:=by simp
 obj:=λi h st c d=>by obtain⟨⟨l,t⟩,⟨o4,U,_,d4⟩⟩:=st;simp only[mem_cons,not_mem_nil,or_false]at d;rcases d with rfl|rfl;exact⟨_,t,λv z=>by cases z⟩;exact⟨_,U,λv z=>by rw[d4]at z;cases z⟩
 keep:=λi h h' st k=>by obtain⟨⟨l,t⟩,⟨o,U,r⟩⟩:=st;exact⟨⟨l,k e (by simp) _ t⟩,⟨o,k it (by simp) o U,r⟩⟩
 item:=by
  intro X Y hw hK d i m s σ H E I hf st hg;subst Y hw hK;obtain⟨xs,x,J,hx⟩:=hg;obtain⟨L,rx,px,_⟩:=I.tuple J;obtain⟨u,hu,ru⟩:=rx.get hx;obtain⟨⟨l,M⟩,t⟩:=st;have hlt:i<L.length:=(Β.mp hu).1;refine wpAny_pyNext_enum_itemD (zq0 (A:=X.A.in1) (I.ok.hd d) it a O L.toArray) M ⟨t,px⟩ (by simpa using hlt) y (by simp[y,Ne.symm Q]) λC h' g n a1 a3 a5 a6 hk=>?_;have ex:C=u:=by
   have hu':L.toArray[i]?=Φ u:=by simpa using hu
   rw[hu']at n;exact(Option.some.inj n).symm
  subst ex;have hn:=I.hok.fresh (le_refl _);have I1:Inv X m σ (upd H s.heap.objs.size (.tup [.int i,x])) {s with heap:=s.heap.push {cls:=.type "tuple",data:=.seq #[.int i g,C]},toks:=g+1}:=I.laid (t':=g+1) (λb u e=>Ω _ e) (le_refl _) ⟨by rw[ϔ];simp,[.int i g,C],.cons ⟨_,rfl⟩ (.cons ru .nil),⟨_,Ι _ rfl,rfl,_,rfl⟩⟩;have lt:∀{c o},s.heap.get? c=Φ o->c≠s.heap.objs.size:=λe=>ne_of_lt (Κ e);have nf:∀c∈[e,it],c≠s.heap.objs.size:=by intro c d;simp only[mem_cons,not_mem_nil,or_false]at d;rcases d with rfl|rfl;exact lt M;obtain⟨o,z,_⟩:=t;exact lt z
  have B:∀c∈[e,it],FpOk X m (upd H s.heap.objs.size (.tup [.int i,x])) c:=λc d=>by obtain⟨f0,f⟩:=hf c d;exact⟨by rw[zak (nf c d)];exact f0,f⟩
  have two:∀{c:Addr},¬c∈[e,it]->c≠e/\c≠it:=λ{c} d=>by simp only[mem_cons,not_mem_nil,or_false,not_or]at d;exact d
  have k2:∀c o,¬c∈[e,it]->(s.heap.push {cls:=.type "tuple",data:=.seq #[.int i g,C]}).get? c=Φ o->h'.get? c=Φ o:=λc o d z=>by by_cases hs:c=s.heap.objs.size;subst hs;have e2:(s.heap.push {cls:=.type "tuple",data:=.seq #[.int i g,C]}).get? s.heap.objs.size=_:=Ι _ rfl;rw[e2]at z;cases z;exact a5;exact hk c o (two d).1 (two d).2 ((Heap.get?_push_ne _ _ _ hs).symm.trans z)
  have I2:=za7 (s:={s with heap:=s.heap.push {cls:=.type "tuple",data:=.seq #[.int i g,C]},toks:=g+1}) (h':=h') (t':=g+1) I1 k2 B;refine⟨_,rfl,?_⟩;refine wpAny_letOwnedTupleGo_enum a1 λh2' hz' G=>?_;refine⟨.ref s.heap.objs.size,upd H s.heap.objs.size (.tup [.int i,x]),za7 (t':=g+1) I2 (λc o d z=>G.extBut _ _ (two d).1 z) B,rfl,⟨_,x,hn,rfl,rfl,λxs' n=>by rw[I.tuple_inj n J];exact hx⟩,
   ⟨⟨_,hz'⟩,(let ⟨o,ho,r⟩:=a3.1;⟨o,G.extBut _ _ (Ne.symm y) ho,r⟩)⟩,λc d=>(B c d).1⟩
 done:=by intro X Y hw hK d i m s σ H E I hf st hg;subst Y hw hK;obtain⟨xs,J,hl⟩:=hg;obtain⟨L,rx,px,_⟩:=I.tuple J;obtain⟨⟨l,M⟩,t⟩:=st;have l1:=rx.length;refine zkh (I.ok.hd d) M t px (by simp;lia) λh' hk=>⟨rfl,za7 I (λc o d z=>hk c o (λq=>d (by simp[q])) z) hf⟩
 self:=λ_ _ _ _ _ st h=>wpAny_pyIter_enum st.1.choose_spec h
def zqP(K:Frag)(t:TA):TI:=λd H R=>t d H λe b=>∃a c,e=[.ref a]/\((SqL K b a c/\R (Ite K a) b)\/(SqT K b a c/\R (IteT K a) b))
theorem zlm(y:Gl X "enumerate")(A:X.mg "enumerate"=Ψ)(B:PA X [a] C)(E:starEach [a] X.env=[(Δ,eval a X.env)]):
  PI X (.Tuple es j Q) (.Call (.Name "enumerate" p) [a] [] pos) (zqP X.K C):=by
 intro f s G H R I h;refine Call_ (zef I y A boot_enumerate (PyProof.Rows.callWith_type1 (thn (B pos f s G H _ I h) λU o z=>?_) E rfl));obtain⟨Y,w,b,J,d⟩:=z;obtain⟨l,xs,e,d⟩:=d;subst e;cases J with
 |cons r L=>
  cases L;cases r;rcases d with⟨d,q⟩|⟨d,q⟩;obtain⟨x,M,n,_⟩:=b.list d;refine call_enumerate_list n.isList λO g t u v=>?_;refine wpAny_pyIter_enum g ?_;refine⟨_,_,_,_,w,rfl,b.kept v,ziI (Nat.succ_ne_self _),⟨⟨_,g⟩,t⟩,λc i=>?_,q⟩;simp only[mem_cons,not_mem_nil,or_false]at i;have:o.heap.objs.size<=c:=by rcases i with rfl|rfl;exact le_succ _;exact le_refl _
  exact b.fpOk this (b.hok.fresh this);obtain⟨x,M,n,_⟩:=b.tuple d;have m:=n.lt;refine zir (show o.heap.IsTuple l x.toArray from n) λO g t u v=>?_;refine wpAny_pyIter_enum g ?_;refine⟨_,_,_,_,w,rfl,b.kept v,zhJ (Nat.succ_ne_self _) (ne_of_lt m) (ne_of_lt (ϝ m)),⟨⟨_,g⟩,t⟩,λc i=>?_,q⟩;simp only[mem_cons,not_mem_nil,or_false]at i;have:o.heap.objs.size<=c:=by rcases i with rfl|rfl;exact le_succ _;exact le_refl _
  exact b.fpOk this (b.hok.fresh this)
theorem zkK{K}(o:H a=Φ (.tup xs))(f:RVs K ι H ds xs):Wk K (IteT K a) (ds.mapIdx λi d=>zcx (.int i) d) [] ι H S:=by have g:∀{b c h},Ltr K ι H S [] b c h->SqT K c a xs/\RVs K b c ds xs:=λ{b c h} e=>⟨SqT.of (e.ext.kp.tups _ _ o),f.ext e.ext⟩;refine⟨λi b c h e l=>?_,λi b c h x w e l y=>?_,λi b c h e l=>?_,λk q=>by cases q⟩;obtain⟨j,f⟩:=g e;rw[length_mapIdx]at l;have r:=f.length;exact⟨xs,xs[i]'(by lia),j,Ε _⟩;obtain⟨j,f⟩:=g e;obtain⟨T,u,m,rfl,rfl,s⟩:=y;obtain⟨d,t,v⟩:=f.get' (s xs j);have n:Ext b c b (upd c T (.tup [.int i,u])):=Ext.new m _;refine⟨n,e.rh.new m _,zcx (.int i) d,by rw[List.getElem?_mapIdx,t];rfl,?_⟩;exact⟨T,[.int i,u],rfl,zao,.int i,[u],rfl,rfl,u,[],rfl,v.ext n,rfl⟩;obtain⟨j,f⟩:=g e;rw[length_mapIdx]at l;have r:=f.length;exact⟨xs,j,by lia⟩
theorem zim(h:zdM S x=Φ r):(∃l a,x=.ref l/\S.get l=Φ (.lst a)/\r=(a.mapIdx λi d=>zcx (.int i) d,[l]))\/∃a,x=.tup a/\r=(a.mapIdx λi d=>zcx (.int i) d,[]):=by
 unfold zdM at h;cases x with
 |ref l=>
  dsimp only at h;cases e:S.get l with
  |none=>rw[e]at h;exact nS h
  |some o=>rw[e]at h;cases o with|lst a=>cases h;exact .inl ⟨l,a,rfl,e,rfl⟩|_=>exact nS h
 |tup a=>cases h;exact .inr ⟨a,rfl,rfl⟩|_=>exact nS h
theorem zna(h:Gl X "enumerate"/\X.mg "enumerate"=Ψ)(y:PE X a (tE X.K cf A))(c:zai a=Γ):PI X (.Tuple es j L) (.Call (.Name "enumerate" p) [a] [] pos) (tI X.K cf (.enum A)):=by refine PI.imp (zlm h.1 h.2 (zaA y c) (zaj c [] X.env)) λM H R z=>?_;obtain⟨O,U,S,Q,B,C,w,q⟩:=z;change W (Out.bind _ _) _ at w;simp only[zab] at w;refine tE.run B C w λd v e Y i m E b n G=>?_;obtain⟨r,I,o⟩:=zau G;rcases zim I with⟨l,J,rfl,s,rfl⟩|⟨J,rfl,rfl⟩;obtain⟨a,t,rfl⟩:=n;obtain⟨a',u,g,f,x⟩:=b.obj l _ s;rw[t]at u;cases u;exact⟨a,g,rfl,.inl ⟨SqL.of f,q _ _ ⟨_,_,e,i,m,b,o,zmQ s t⟩⟩⟩;obtain⟨a,g,rfl,f,x⟩:=n;exact⟨a,g,rfl,.inr ⟨SqT.of f,q _ _ ⟨_,_,e,i,m,b,o,zkK f x⟩⟩⟩
end
end R
namespace R
open PySem PySem.SetTable
noncomputable def adv(mask:Nat)(p:Probe):Probe:=
 if p.more>0 then {p with j:=p.j+1,more:=p.more-1} else
 {p with j:=(leap mask p.i p.perturb).1,more:=runEnd mask (leap mask p.i p.perturb).1-(leap mask p.i p.perturb).1,i:=(leap mask p.i p.perturb).1,perturb:=(leap mask p.i p.perturb).2}
theorem zmL(t:SetTable)(p):t.advance p=adv t.mask p:=by unfold SetTable.advance adv;rfl
noncomputable def advN(mask:Nat):Nat->Probe->Probe
 |0,p=>p|n+1,p=>advN mask n (adv mask p)
theorem zga(mask):∀(n:Nat)(p:Probe),advN mask (n+1) p=adv mask (advN mask n p)
 |0,p=>rfl|n+1,p=>zga mask n (adv mask p)
theorem zb3(mask):∀(a b:Nat)(p:Probe),advN mask (a+b) p=advN mask b (advN mask a p)
 |0,b,p=>by rw[zero_add];rfl|a+1,b,p=>by rw[show a+1+b=a+b+1 by lia];exact zb3 mask a b (adv mask p)
noncomputable def ze8(mask i a:Nat)(d:Option Nat):Probe:={j:=i,more:=runEnd mask i-i,i,perturb:=a,dummy:=d}
noncomputable def okP(mask:Nat)(p:Probe):Prop:=p.i<=mask/\p.more<=9/\p.perturb<2^64/\p.j+p.more<=mask
theorem zi2{mask i}(h:i<=mask):runEnd mask i-i<=9/\i<=runEnd mask i/\runEnd mask i<=mask:=by unfold runEnd;split<;>lia
theorem zjr{mask i pb}(h:i<=mask)(hp:pb<2^64):okP mask (ze8 mask i pb d):=by have:=zi2 h;exact⟨h,this.1,hp,by show i+(runEnd mask i-i)<=mask;lia⟩
theorem zcO{mask i pb}(hp:pb<2^64):(leap mask i pb).1<=mask/\(leap mask i pb).2<2^64:=by unfold leap;refine⟨?_,?_⟩;have:=Nat.mod_lt (i*5+1+pb/32) (show 0<mask+1 by lia);show _%(mask+1)<=mask;lia;show pb/32<_;lia
theorem znV{mask}(h:okP mask p):okP mask (adv mask p):=by obtain⟨b,c,a,d⟩:=h;unfold adv;split;exact⟨b,by lia,a,by lia⟩;have:=zcO (mask:=mask) (i:=p.i) a;exact zjr this.1 this.2
theorem zeN{mask}:∀(n:Nat){p:Probe},okP mask p->okP mask (advN mask n p)
 |0,_,h=>h|n+1,_,h=>zeN n (znV h)
theorem zcy(t:SetTable)(h):okP t.mask (t.probeStart h):=by refine zjr (d:=Ψ) ?_ ?_;have:=Nat.mod_lt (bits h) (show 0<t.mask+1 by lia);lia;unfold bits;lia
theorem zeF(mask):∀(n:Nat)(p:Probe),p.more=n->advN mask (n+1) p=ze8 mask (leap mask p.i p.perturb).1 (leap mask p.i p.perturb).2 p.dummy
 |0,p,h=>by show adv mask p=_;unfold adv;rw[if_neg (by lia)];rfl| n+1,p,h=>by show advN mask (n+1) (adv mask p)=_;rw[show adv mask p={p with j:=p.j+1,more:=p.more-1} by unfold adv;rw[if_pos (by lia)]];exact zeF mask n {p with j:=p.j+1,more:=p.more-1} (by show p.more-1=n;lia)
theorem zg1(mask):∀(n:Nat)(p:Probe),n<=p.more->(advN mask n p).j=p.j+n
 |0,p,_=>rfl| n+1,p,h=>by show(advN mask n (adv mask p)).j=_;rw[show adv mask p={p with j:=p.j+1,more:=p.more-1} by unfold adv;rw[if_pos (by lia)],zg1 mask n _ (by lia)];lia
noncomputable def lps(mask:Nat):Nat->Nat×Nat->Nat×Nat
 |0,x=>x|n+1,x=>lps mask n (leap mask x.1 x.2)
theorem zl9(mask):∀(n i a:Nat)(d:Option Nat),i<=mask->a<2^64->∃k,k<=10*n/\advN mask k (ze8 mask i a d)=ze8 mask (lps mask n (i,a)).1 (lps mask n (i,a)).2 d
 |0,i,a,d,_,_=>⟨0,le_refl _,rfl⟩| n+1,i,a,d,c,f=>by have l:=zi2 c;have b:=zcO (mask:=mask) (i:=i) f;have e:=zeF mask _ (ze8 mask i a d) rfl;obtain⟨g,h,j⟩:=zl9 mask n (leap mask i a).1 (leap mask i a).2 d b.1 b.2;refine⟨runEnd mask i-i+1+g,by lia,?_⟩;rw[zb3];exact(congrArg _ e).trans j
theorem zjE(mask):∀(a b:Nat)(x:Nat×Nat),lps mask (a+b) x=lps mask b (lps mask a x)
 |0,b,x=>by rw[zero_add];rfl|a+1,b,x=>by rw[show a+1+b=a+b+1 by lia];exact zjE mask a b _
theorem zms{mask}:∀(n:Nat)(x:Nat×Nat),x.1<=mask->x.2<2^64->(lps mask n x).1<=mask/\(lps mask n x).2<2^64
 |0,x,h,a=>⟨h,a⟩|n+1,x,h,a=>zms n _ (zcO a).1 (zcO a).2
theorem zmr(mask):∀(n:Nat)(x:Nat×Nat),(lps mask n x).2=x.2/32^n
 |0,x=>by simp[lps]| n+1,x=>by rw[lps,zmr mask n];show x.2/32/32^n=_;rw[Nat.div_div_eq_div_mul,Nat.pow_succ,Nat.mul_comm]
noncomputable def cyc(mask:Nat):Nat->Nat->Nat
 |0,i=>i|n+1,i=>cyc mask n ((i*5+1)%(mask+1))
theorem zjD(mask):∀(n i:Nat),(lps mask n (i,0)).1=cyc mask n i
 |0,_=>rfl| n+1,i=>by show(lps mask n ((i*5+1+0/32)%(mask+1),0/32)).1=_;exact zjD mask n _
theorem ze3(mask):∀(a b i:Nat),cyc mask (a+b) i=cyc mask b (cyc mask a i)
 |0,b,i=>by rw[zero_add];rfl|a+1,b,i=>by rw[show a+1+b=a+b+1 by lia];exact ze3 mask a b _
noncomputable def mk4(mask:Nat):Prop:=mask=7\/mask=31\/mask=127\/mask=511
noncomputable def orb(mask:Nat):Nat->Nat->List Nat
 |0,_=>[]|n+1,i=>i::orb mask n ((i*5+1)%(mask+1))
theorem zjq(mask):∀(n i:Nat),j∈orb mask n i->∃k,k<n/\cyc mask k i=j
 |0,_,h=>by cases h| n+1,i,h=>by rcases mem_cons.mp h with rfl|h;exact⟨0,by lia,rfl⟩;obtain⟨k,a,e⟩:=zjq mask n _ h;exact⟨k+1,by lia,e⟩
noncomputable def zsp(mask:Nat):Bool:=(List.range (mask+1)).all λj=>(orb mask (mask+1) 0).contains j
theorem zrc{mask}(h:mk4 mask):zsp mask=Γ/\cyc mask (mask+1) 0=0:=by rcases h with rfl|rfl|rfl|rfl<;>decide +kernel
theorem zoz{mask i j}(h:mk4 mask)(l:i<=mask)(e:j<=mask):∃n,n<=mask/\cyc mask n i=j:=by
 obtain⟨m,o⟩:=zrc h;have d:∀j,j<=mask->∃k,k<mask+1/\cyc mask k 0=j:=λj e=>by have:=all_eq_true.mp m j (mem_range.mpr (by lia));exact zjq mask _ _ (List.contains_iff_mem.mp this)
 obtain⟨a,p,f⟩:=d i l;obtain⟨b,q,g⟩:=d j e;by_cases c:a<=b;refine⟨b-a,by lia,?_⟩;rw[<-f,<-ze3,show a+(b-a)=b by lia,g];refine⟨mask+1-a+b,by lia,?_⟩;rw[<-f,<-ze3,show a+(mask+1-a+b)=mask+1+b by lia,ze3,o,g]
theorem zgZ{mask i a j}(h:mk4 mask)(c:i<=mask)(b:a<2^64)(d:j<=mask):∃n,n<=mask+13/\(lps mask n (i,a)).1=j:=by have f:=zms 13 (i,a) c b;obtain⟨n,g,e⟩:=zoz h f.1 d;refine⟨13+n,by lia,?_⟩;rw[zjE,show lps mask 13 (i,a)=((lps mask 13 (i,a)).1,0) from Prod.ext rfl ?_,zjD,e];rw[zmr];exact Nat.div_eq_of_lt (lt_of_lt_of_le b (by decide))
theorem zdg{mask}(h:mk4 mask)(ok:okP mask p)(c:j<=mask):∃n,n<=10*(mask+14)+9/\(advN mask n p).j=j:=by obtain⟨l,m,d,o⟩:=ok;have e:=zeF mask _ p rfl;have a:=zcO (mask:=mask) (i:=p.i) d;obtain⟨n,q,b⟩:=zgZ h a.1 a.2 c;obtain⟨f,g,k⟩:=zl9 mask n _ _ p.dummy a.1 a.2;refine⟨p.more+1+f,by lia,?_⟩;rw[zb3,e,k,show((leap mask p.i p.perturb).1,(leap mask p.i p.perturb).2)=leap mask p.i p.perturb from rfl];rw[show((leap mask p.i p.perturb).1,(leap mask p.i p.perturb).2)=leap mask p.i p.perturb from rfl]at b;exact b
structure Tt(t:SetTable):Prop where
 m4:mk4 t.mask
 rise:Rise t.place
 le:∀j∈t.place.toList,j<=t.mask
 dm:t.dummies = #[]
 room:t.place.size*5<t.mask*3
theorem zhC(h:Rise xs)(a:i<xs.size):SetTable.below xs xs[i]=i:=by
 obtain⟨e,b,d⟩:=zb2 h xs[i];have f:¬i<SetTable.below xs xs[i]:=λc=>by have:=b i a c;lia
 have g:¬SetTable.below xs xs[i]<i:=λc=>by have j:=d _ (by lia) (le_refl _);have k:=zdi h c a;lia
 lia
section
variable{t:SetTable}
theorem zfg(T:Tt t)(a:i<t.place.size):t.slot t.place[i]=.live i:=by unfold SetTable.slot;dsimp only;rw[zhC T.rise a,if_pos (by simp[a])]
theorem ziR(T:Tt t)(hj:j∉t.place.toList):t.slot j=.empty:=by unfold SetTable.slot;dsimp only;rw[if_neg,T.dm,if_neg];simp[SetTable.has];intro z;have z:=eq_of_beq z;obtain⟨h,e⟩:=Array.getElem?_eq_some_iff.mp z;exact hj (e▸Array.getElem_mem_toList h)
theorem zhL(T:Tt t)(j):(t.slot j=.empty/\j∉t.place.toList)\/∃(i:Nat) (h:i<t.place.size),t.slot j=.live i/\t.place[i]=j:=by
 by_cases c:j∈t.place.toList;obtain⟨i,d,e⟩:=ϓ.mp c;have a:i<t.place.size:=by simpa using d
 have b:t.place[i]=j:=by simpa using e
 refine .inr ⟨i,a,?_,b⟩;rw[<-b];exact zfg T a;exact .inl ⟨ziR T c,c⟩
theorem zff(T:Tt t):∃e,e<=t.mask/\e∉t.place.toList:=by
 apply Classical.byContradiction;intro g;have b:∀e,e<=t.mask->e∈t.place.toList:=λe h=>Classical.byContradiction λz=>g ⟨e,h,z⟩;have c:∀m,m<=t.mask+1->SetTable.below t.place m=m:=by
  intro m;induction m with
  |zero=>exact λ_=>zex T.rise| succ m j=>
   intro l;obtain⟨i,k,e⟩:=ϓ.mp (b m (by lia));have a:i<t.place.size:=by simpa using k
   have d:t.place[i]=m:=by simpa using e
   have f:=j (by lia);rw[<-d,zhC T.rise a]at f;have:=zey T.rise a;rw[d,f]at this;rw[this,d]
 have f:=c (t.mask+1) (le_refl _);have n:=(zb2 T.rise (t.mask+1)).1;have:=T.room;rcases T.m4 with z|z|z|z<;>lia
inductive Mt1(t:SetTable)(ha:Nat->Int)(h:Int)(p:Probe):Met->Prop where
 |fr (k:Nat) (e:(advN t.mask k p).j∉t.place.toList) (b:∀k',k'<k->∃(i:Nat) (hi:i<t.place.size),t.place[i]=(advN t.mask k' p).j/\ha i≠h):Mt1 t ha h p (.empty (advN t.mask k p).j Ψ)
 |ca (k i:Nat) (hi:i<t.place.size) (e:t.place[i]=(advN t.mask k p).j) (eh:ha i=h) (b:∀k',k'<k->∃(i:Nat) (hi:i<t.place.size),t.place[i]=(advN t.mask k' p).j/\ha i≠h):Mt1 t ha h p (.candidate (advN t.mask k p).j i (advN t.mask (k+1) p))
theorem zmM(mask)(p):(adv mask p).dummy=p.dummy:=by unfold adv;split<;>rfl
theorem zmC(T:Tt t)(d)(h):∀(n f:Nat)(p:Probe),n<f->p.dummy=Ψ->(advN t.mask n p).j∉t.place.toList->∃m,SetTable.probe.go t d h f p=Φ m/\Mt1 t d h p m
 |n,0,p,u,_,_=>by lia| n,f+1,p,u,q,r=>by
  rcases zhL T p.j with⟨l,g⟩|⟨i,j,l,g⟩;refine⟨.empty p.j Ψ,?_,.fr 0 g λa z=>by lia⟩;unfold SetTable.probe.go;rw[l,q];by_cases c:d i=h;refine⟨.candidate p.j i (t.advance p),?_,?_⟩;unfold SetTable.probe.go;rw[l];dsimp only;rw[if_pos (by simpa using c)];rw[zmL];exact .ca 0 i j g c λa z=>by lia
  cases n with
  |zero=>exact absurd (g▸Array.getElem_mem_toList j) r| succ n=>
   obtain⟨m,v,w⟩:=zmC T d h n f (adv t.mask p) (by lia) ((zmM _ _).trans q) r;refine⟨m,?_,?_⟩;unfold SetTable.probe.go;rw[l];dsimp only;rw[if_neg (by simpa using c),zmL];exact v;have s:∀k,(∀a,a<k->∃(i:Nat) (j:i<t.place.size),t.place[i]=(advN t.mask a (adv t.mask p)).j/\d i≠h)->∀a,a<k+1->∃(i:Nat) (j:i<t.place.size),t.place[i]=(advN t.mask a p).j/\d i≠h:=λk b a A=>by cases a with|zero=>exact⟨i,j,g,c⟩|succ a=>exact b a (by lia)
   cases w with|fr k e b=>exact .fr (k+1) e (s k b)|ca k x o e y b=>exact .ca (k+1) x o e y (s k b)
theorem zfs(T:Tt t)(a)(h)(ok:okP t.mask p)(hd:p.dummy=Ψ):∃m,t.probe a h p=Φ m/\Mt1 t a h p m:=by obtain⟨e,b,c⟩:=zff T;obtain⟨n,f,d⟩:=zdg T.m4 ok b;refine zmC T a h n _ p ?_ hd (d▸c);show n<10*turns t.mask;unfold turns;lia
noncomputable def Rch(t:SetTable)(h:Int)(j:Nat):Prop:=∃n,(advN t.mask n (t.probeStart h)).j=j/\∀a,a<n->(advN t.mask a (t.probeStart h)).j∈t.place.toList
noncomputable def Lies(t:SetTable)(a:List Int):Prop:=a.length=t.place.size/\∀(i j:Nat)(h:Int),t.place.toList[i]?=Φ j->a[i]?=Φ h->Rch t h j
end
noncomputable def bgn(mask:Nat)(h:Int):Probe:=ze8 mask (bits h%(mask+1)) (bits h) Ψ
theorem zmI(t:SetTable)(h):t.probeStart h=bgn t.mask h:=rfl
noncomputable def RchO(mask:Nat)(h:Int)(P:Nat->Prop)(j:Nat):Prop:=∃n,(advN mask n (bgn mask h)).j=j/\∀a,a<n->P (advN mask a (bgn mask h)).j
theorem RchO.mono{mask}(r:RchO mask h P j)(i:∀x,P x->Q x):RchO mask h Q j:=let ⟨n,e,b⟩:=r;⟨n,e,λn' hn=>i _ (b n' hn)⟩
structure OI(mask:Nat)(ow:Array (Option Nat))(js:List Nat)(hs:List Int):Prop where
 sz:ow.size=mask+1
 len:js.length=hs.length
 nd:js.Nodup
 le:∀j∈js,j<=mask
 own:∀j k,ow.getD j Ψ=Φ k↔js[k]?=Φ j
 rch:∀(k:Nat) h j,hs[k]?=Φ h->js[k]?=Φ j->RchO mask h (·∈js) j
section
variable{mask:Nat}{ow:Array (Option Nat)}{js:List Nat}{hs:List Int}
theorem OI.free(o:OI mask ow js hs)(b:j<=mask):(ow.getD j (Φ 0)).isNone=Γ↔j∉js:=by
 have e:ow.getD j (Φ 0)=ow.getD j Ψ:=by simp[Array.getD,o.sz,show j<mask+1 by lia]
 rw[e];cases h:ow.getD j Ψ with
 |none=>refine⟨λ_ z=>?_,λ_=>rfl⟩;obtain⟨k,a,e⟩:=ϓ.mp z;have:=(o.own j k).mpr (by rw[Ε a,e]);rw[h]at this;exact nS this
 |some k=>refine⟨λz=>(by exact nB z),λz=>absurd (mem_of_getElem? ((o.own j k).mp h)) z⟩
theorem zho(o:OI mask ow js hs):∀(f n i b:Nat),n<f->i<=mask->b<2^64->(lps mask n (i,b)).1∉js->
  ∃j,SetTable.layClean.free mask ow f i b=Φ j/\j<=mask/\j∉js/\∃q,(advN mask q (ze8 mask i b Ψ)).j=j/\∀a,a<q->(advN mask a (ze8 mask i b Ψ)).j∈js
 |0,n,i,b,u,_,_,_=>by lia| f+1,n,i,b,u,v,w,l=>by
  have M:=zi2 v;unfold SetTable.layClean.free;cases e:(List.range (runEnd mask i+1-i)).find? λk=>(ow.getD (i+k) (Φ 0)).isNone with
  |some k=>
   dsimp only;obtain⟨x,d,N,g,y⟩:=List.find?_eq_some_iff_append.mp e;have A:k<runEnd mask i+1-i:=mem_range.mp (by rw[g];simp);have B:d=List.range k:=by
    have h:=congrArg (List.take d.length) g;rw[List.take_left,List.take_range]at h;have C:(List.range (runEnd mask i+1-i))[d.length]?=Φ k:=by rw[g];simp
    have E:=Β.mp C;obtain⟨O,m⟩:=E;rw[List.getElem_range]at m;rw[m]at h;rw[<-h,Nat.min_eq_left (by lia)]
   refine⟨i+k,rfl,by lia,(o.free (by lia)).mp x,k,?_,λa r=>?_⟩;exact zg1 mask k _ (by show k<=runEnd mask i-i;lia);rw[zg1 mask a _ (by show a<=runEnd mask i-i;lia)];show i+a∈js;have:=y a (by rw[B];exact mem_range.mpr r);apply Classical.byContradiction;intro z;rw[(o.free (by lia)).mpr z]at this;exact nB this
  |none=>
   dsimp only;have s:∀k,k<=runEnd mask i-i->i+k∈js:=λk A=>by have:=List.find?_eq_none.mp e k (mem_range.mpr (by lia));apply Classical.byContradiction;intro z;exact this ((o.free (by lia)).mpr z)
   cases n with|zero=>exact absurd (s 0 (by lia)) l| succ n=>have lk:=zcO (mask:=mask) (i:=i) w;obtain⟨j,G,H,I,q,J,L⟩:=zho o f n (leap mask i b).1 (leap mask i b).2 (by lia) lk.1 lk.2 l;have t:=zeF mask _ (ze8 mask i b Ψ) rfl;refine⟨j,G,H,I,runEnd mask i-i+1+q,?_,λa r=>?_⟩;rw[zb3];exact(congrArg (λp=>(advN mask q p).j) t).trans J;by_cases c:a<=runEnd mask i-i;rw[zg1 mask a _ c];exact s a c;rw[show a=runEnd mask i-i+1+(a-(runEnd mask i-i+1)) by lia,zb3];exact(congrArg (λp=>(advN mask (a-(runEnd mask i-i+1)) p).j) t).symm▸L (a-(runEnd mask i-i+1)) (by lia)
theorem zkH:∀(N:Nat)(js:List Nat),(∀e,e<N->e∈js)->N<=js.length
 |0,_,_=>zero_le _| N+1,js,h=>by have b:=zkH N (js.erase N) λe c=>(List.mem_erase_of_ne (by lia)).mpr (h e (by lia));have a:=h N (by lia);rw[List.length_erase_of_mem a]at b;have:=List.length_pos_of_mem a;lia
theorem zoc(o:OI mask ow js hs)(h:js.length<=mask):∃e,e<=mask/\e∉js:=by apply Classical.byContradiction;intro b;have a:∀e,e<mask+1->e∈js:=λe c=>Classical.byContradiction λz=>b ⟨e,by lia,z⟩;have:=zkH (mask+1) js a;lia
theorem OI.put(o:OI mask ow js hs)(u:mk4 mask)(h:js.length<=mask)(x):
  ∃j,SetTable.layClean.free mask ow (turns mask) (bits x%(mask+1)) (bits x)=Φ j/\OI mask (ow.setIfInBounds j (Φ js.length)) (js++[j]) (hs++[x]):=by
 obtain⟨e,v,w⟩:=zoc o h;have p:bits x%(mask+1)<=mask:=by have:=Nat.mod_lt (bits x) (show 0<mask+1 by lia);lia
 have r:bits x<2^64:=by unfold bits;lia
 obtain⟨n,Q,A⟩:=zgZ u p r v;obtain⟨j,B,C,s,q,E,G⟩:=zho o (turns mask) n _ _ (by unfold turns;lia) p r (A▸w);refine⟨j,B,by simp[o.sz],by simp[o.len],?_,?_,λi k=>?_,λk y i l m=>?_⟩;rw[nodup_append];exact⟨o.nd,by simp,λa H b I=>by cases mem_singleton.mp I;exact λz=>s (z▸H)⟩;intro i f;rcases mem_append.mp f with f|f;exact o.le i f;cases mem_singleton.mp f;exact C;have g:(ow.setIfInBounds j (Φ js.length)).getD i Ψ=if i=j then Φ js.length else ow.getD i Ψ:=by rw[Array.getD_eq_getD_getElem?,Array.getElem?_setIfInBounds,Array.getD_eq_getD_getElem?];by_cases c:j=i;subst c;rw[if_pos rfl,if_pos (by rw[o.sz];lia),if_pos rfl];rfl;rw[if_neg c,if_neg (λz=>c z.symm)]
 rw[g];by_cases c:i=j;subst c;rw[if_pos rfl];constructor;intro z;cases z;simp;intro z;by_cases d:k<js.length;rw[getElem?_append_left d]at z;exact absurd (mem_of_getElem? z) s;have:=(Β.mp z).1;simp at this;rw[show k=js.length by lia];rw[if_neg c,o.own];by_cases d:k<js.length;rw[getElem?_append_left d];rw[getElem?_append_right (by lia),ϛ (by lia)];constructor;intro z;exact nS z;intro z;have:=mem_of_getElem? z;exact absurd (mem_singleton.mp this) c;have t:∀z,z∈js->z∈js++[j]:=λz J=>mem_append_left _ J;by_cases d:k<js.length;rw[getElem?_append_left (by rw[<-o.len];exact d)]at l;rw[getElem?_append_left d]at m;exact(o.rch k y i l m).mono t;rw[getElem?_append_right (by have:=o.len;lia)]at l;rw[getElem?_append_right (by lia)]at m;have L:=mem_singleton.mp (mem_of_getElem? l);have M:=mem_singleton.mp (mem_of_getElem? m);subst L M;exact⟨q,E,λN O=>t _ (G N O)⟩
end
theorem zhi{mask:Nat}(h4:mk4 mask):∀(xs:List Int)(ow:Array (Option Nat))(js:List Nat)(hs:List Int),OI mask ow js hs->js.length+xs.length<=mask+1->
  ∃ow' js',xs.foldl (λ(acc:Option (Array (Option Nat)×Nat)) h=>do
   let (owner,k) <-acc;let j <-SetTable.layClean.free mask owner (turns mask) (bits h%(mask+1)) (bits h)
   pure (owner.setIfInBounds j (Φ k),k+1)) (Φ (ow,js.length))=Φ (ow',js'.length)/\OI mask ow' js' (hs++xs)
 | [],ow,js,hs,o,_=>⟨ow,js,rfl,by rw[append_nil];exact o⟩| x::xs,ow,js,hs,o,h=>by simp only[length_cons]at h;obtain⟨j,e,o'⟩:=o.put h4 (by lia) x;obtain⟨ow',js',e2,o2⟩:=zhi h4 xs _ _ _ o' (by simp;lia);refine⟨ow',js',?_,by rw[show hs++x::xs=hs++[x]++xs by simp];exact o2⟩;rw[List.foldl_cons,<-e2];congr 1;show(SetTable.layClean.free mask ow (turns mask) (bits x%(mask+1)) (bits x)).bind _=_;rw[e];simp
theorem zjR{mask}(d:mk4 mask)(a)(h:a.size<=mask+1):∃b c,SetTable.layClean mask a=Φ b/\OI mask b c a.toList:=by
 have f:OI mask (Array.replicate (mask+1) Ψ) [] []:=⟨by simp,rfl,List.nodup_nil,λj h=>(by cases h),λj k=>⟨λz=>(by
  rw[Array.getD_eq_getD_getElem?,Array.getElem?_replicate]at z;split at z<;>exact nS z),λz=>(by exact nS z)⟩,λk h j g=>(by exact nS g)⟩
 obtain⟨b,c,e,o⟩:=zhi d a.toList _ _ _ f (by simpa using h);refine⟨b,c,?_,o⟩;unfold SetTable.layClean;rw[<-Array.foldl_toList];show Option.map _ (List.foldl _ (Φ (_,0)) _)=_;rw[show(0:Nat)=([]:List Nat).length from rfl];erw [e]
 rfl
section
variable{mask:Nat}{ow:Array (Option Nat)}{js:List Nat}{hs:List Int}
noncomputable def liv(mask:Nat)(ow:Array (Option Nat)):List (Nat×Nat):=(List.range (mask+1)).filterMap λj=>(ow.getD j Ψ).map (j,·)
theorem zcj(o:OI mask ow js hs):(j,k)∈liv mask ow↔js[k]?=Φ j:=by
 unfold liv;rw[List.mem_filterMap];constructor;rintro⟨i,_,e⟩;cases c:ow.getD i Ψ with
 |none=>rw[c]at e;exact nS e
 |some a=>rw[c]at e;cases e;exact(o.own j k).mp c
 intro h;exact⟨j,mem_range.mpr (by have:=o.le j (mem_of_getElem? h);lia),by rw[(o.own j k).mpr h];rfl⟩
theorem zjL(mask)(ow):(liv mask ow).Pairwise λa b=>a.1<b.1:=by
 unfold liv;rw[List.pairwise_filterMap];refine List.pairwise_lt_range.imp λ{x y} f a d c e=>?_;cases g:ow.getD x Ψ with
 |none=>rw[g]at d;exact nS d
 |some u=>
  cases h:ow.getD y Ψ with
  |none=>rw[h]at e;exact nS e
  |some i=>rw[g]at d;rw[h]at e;cases d;cases e;exact f
theorem zlD(o:OI mask ow js hs):((liv mask ow).map (·.2)).Perm (List.range js.length):=by refine(List.perm_ext_iff_of_nodup ?_ List.nodup_range).mpr λk=>?_;rw[List.nodup_iff_pairwise_ne,pairwise_map];refine(zjL mask ow).imp_of_mem λ{a b} c d h e=>?_;have f:=(zcj o).mp (show(a.1,a.2)∈_ from c);have g:=(zcj o).mp (show(b.1,b.2)∈_ from d);rw[e,g]at f;lia;rw[mem_map,mem_range];constructor;rintro⟨x,i,rfl⟩;exact(Β.mp ((zcj o).mp (show(x.1,x.2)∈_ from i))).1;intro j;exact⟨(js[k],k),(zcj o).mpr (Ε j),rfl⟩
theorem zmw(o:OI mask ow js hs):z∈(liv mask ow).map (·.1)↔z∈js:=by rw[mem_map];constructor;rintro⟨x,a,rfl⟩;exact mem_of_getElem? ((zcj o).mp (show(x.1,x.2)∈_ from a));intro h;obtain⟨k,b,e⟩:=ϓ.mp h;exact⟨(z,k),(zcj o).mpr (by rw[Ε b,e]),rfl⟩
end
theorem zn9{mask fi mv}(l:mk4 mask)(a)(h:a.size*5<mask*3):
  ∃t' c,SetTable.laid mask fi mv ld pl a=Φ (t',c)/\t'.mask=mask/\t'.led=ld/\t'.plain=pl/\t'.moves=mv/\Tt t'/\c.toList.Perm (List.range a.size)/\Lies t' (c.toList.map λk=>a.toList.getD k 0):=by
 have t:a.size<=mask+1:=by rcases l with z|z|z|z<;>lia
 obtain⟨d,q,e,o⟩:=zjR l a t;have r:q.length=a.size:=by rw[o.len];simp
 have s:=zlD o;have m:(liv mask d).length=a.size:=by rw[<-r,<-length_range (n:=q.length),<-s.length_eq,length_map]
 refine⟨_,_,by unfold SetTable.laid;rw[e];rfl,rfl,rfl,rfl,rfl,⟨l,?_,?_,rfl,?_⟩,?_,?_⟩;show Pairwise _ (List.map _ (liv mask d));rw[pairwise_map];exact zjL mask d;intro j b;exact o.le j ((zmw o).mp b);show((liv mask d).map (·.1)).toArray.size*5<mask*3;rw[size_toArray,length_map,m];exact h;rw[<-r];exact s;refine⟨?_,λi j x b f=>?_⟩;simp;have b:((liv mask d).map (·.1))[i]?=Φ j:=b;have f:(((liv mask d).map (·.2)).map λk=>a.toList.getD k 0)[i]?=Φ x:=f;rw[getElem?_map]at b;rw[getElem?_map,getElem?_map]at f;cases p:(liv mask d)[i]? with
 |none=>rw[p]at b;exact nS b
 |some y=>
  rw[p]at b f;cases b;have f:a.toList.getD y.2 0=x:=Option.some.inj f;have g:=(zcj o).mp (show(y.1,y.2)∈_ from mem_of_getElem? p);have u:=(Β.mp g).1;have v:a.toList[y.2]?=Φ x:=by rw[<-f,ϊ,Ε (by rw[<-o.len];exact u)];rfl
  exact(o.rch _ x _ v g).mono λz w=>(zmw o).mpr w
theorem ins_get{a:Type}{xs:List a}(x)(b:p<=xs.length)(i):(xs.take p++x::xs.drop p)[i]?=if i<p then xs[i]? else if i=p then Φ x else xs[i-1]?:=by
 by_cases c:i<p;rw[if_pos c,getElem?_append_left (by simp;lia),List.getElem?_take,if_pos c];rw[if_neg c,getElem?_append_right (by simp;lia)];have e:(xs.take p).length=p:=by simp;lia
 rw[e];by_cases d:i=p;subst d;rw[if_pos rfl,Nat.sub_self];rfl;rw[if_neg d,show i-p=(i-p-1)+1 by lia,List.getElem?_cons_succ,List.getElem?_drop];congr 1;lia
structure Tt0(t:SetTable):Prop where
 m4:mk4 t.mask
 rise:Rise t.place
 le:∀j∈t.place.toList,j<=t.mask
 dm:t.dummies = #[]
 sz:t.place.size<=t.mask
theorem zpO(T:Tt t)(L:Lies t hs)(s:(advN t.mask n (t.probeStart h)).j∉t.place.toList)(y:∀l,l<n->(advN t.mask l (t.probeStart h)).j∈t.place.toList):
  Tt0 (t.put (advN t.mask n (t.probeStart h)).j).1/\(t.put (advN t.mask n (t.probeStart h)).j).2<=t.place.size/\(t.put (advN t.mask n (t.probeStart h)).j).1.place.size=t.place.size+1/\
  Lies (t.put (advN t.mask n (t.probeStart h)).j).1 (hs.take (t.put (advN t.mask n (t.probeStart h)).j).2++h::hs.drop (t.put (advN t.mask n (t.probeStart h)).j).2):=by
 have u:(advN t.mask n (t.probeStart h)).j<=t.mask:=by have:=(zeN n (zcy t h)).2.2.2;lia
 generalize A:(advN t.mask n (t.probeStart h)).j=j at s u⊢;have o:=(zb2 T.rise j).1;have O:=T.room;have p:(t.put j).1.place.toList=t.place.toList.take (SetTable.below t.place j)++j::t.place.toList.drop (SetTable.below t.place j):=zck _ _ _;have v:(t.put j).1.place.size=t.place.size+1:=by rw[<-length_toList,p];simp;lia
 have B:t.place[SetTable.below t.place j]?≠Φ j:=λz=>by obtain⟨r,e⟩:=Array.getElem?_eq_some_iff.mp z;exact s (e▸Array.getElem_mem_toList r)
 have g:∀z,z∈(t.put j).1.place.toList↔z=j\/z∈t.place.toList:=λz=>by
  rw[p,mem_append,mem_cons];have:z∈t.place.toList↔z∈t.place.toList.take (SetTable.below t.place j)\/z∈t.place.toList.drop (SetTable.below t.place j):=by rw[<-mem_append,List.take_append_drop]
  rw[this];constructor;rintro(a|a|a);exact .inr (.inl a);exact .inl a;exact .inr (.inr a);rintro(a|a|a);exact .inr (.inl a);exact .inl a;exact .inr (.inr a)
 have C:(t.put j).1.dummies = #[]:=by show(if SetTable.has t.dummies j then _ else t.dummies)=_;rw[T.dm];simp[SetTable.has]
 have E:=L.1;refine⟨⟨T.m4,zdj T.rise B,λz b=>?_,C,?_⟩,o,v,?_,λi z x b f=>?_⟩;rcases(g z).mp b with rfl|b;exact u;exact T.le z b
 . rw[v];show t.place.size+1<=t.mask;rcases T.m4 with z|z|z|z<;>lia
 simp;lia;have w:∀z,z∈t.place.toList->z∈(t.put j).1.place.toList:=λz b=>(g z).mpr (.inr b);rw[p,ins_get j (by simpa using o)]at b;have f:(hs.take (SetTable.below t.place j)++h::hs.drop (SetTable.below t.place j))[i]?=Φ x:=f;rw[ins_get h (by rw[E];exact o)]at f;have k:∀m,t.place.toList[m]?=Φ z->hs[m]?=Φ x->Rch (t.put j).1 x z:=λm r G=>by obtain⟨q,H,I⟩:=L.2 m z x r G;exact⟨q,H,λJ M=>w _ (I J M)⟩
 by_cases c:i<SetTable.below t.place j;rw[if_pos c]at b f;exact k i b f;rw[if_neg c]at b f;by_cases d:i=SetTable.below t.place j;rw[if_pos d]at b f;cases b;cases f;exact⟨n,A,λl N=>w _ (y l N)⟩;rw[if_neg d]at b f;exact k _ b f
end R
namespace R
open PySem PySem.Spec PyProof.Rows
section
variable{prog:Τ}{w:ϐ}{K:Type}[DecidableEq K]
structure PKd(knd:HeapKind prog w K):Prop where
 hbv:∀{A:ϑ}{E:Λ->Η->Prop}{s:Η}{k:K}{a:Addr}{Q:Bool->Η->Prop},knd.is s.heap k a->(∀b,Q b s)->wpAny (model prog w) A (hashByValue 8 (.ref a)) Q E s
 cls:∀{A:ϑ}{E:Λ->Η->Prop}{s:Η}{k:K}{a:Addr}{Q:Bool->Η->Prop},knd.is s.heap k a->Q Δ s->wpAny (model prog w) A (ofAClassStatement 8 (.ref a)) Q E s
 stay:∀{h h':Heap}{k:K}{a:Addr},knd.is h k a->(∀b o,h.get? b=Φ o->o.cls=.type "tuple"->h'.get? b=Φ o)->knd.is h' k a
noncomputable def entP(knd:HeapKind prog w K)(x:K×Addr):Int×Λ:=(knd.hash x.1,.ref x.2)
structure SP(knd:HeapKind prog w K)(h:Heap)(a:Addr)(kas:List (K×Addr))(o:Obj)(es:Array (Int×Λ))(ep:Nat)(t:SetTable):Prop where
 ho:h.get? a=Φ o
 ex:o.ExactSet
 hd:o.data=.set es ep t
 es:es.toList=kas.map (entP knd)
 is:∀x∈kas,knd.is h x.1 x.2
 nd:(kas.map (·.1)).Nodup
 tt:Tt t
 ls:Lies t (kas.map λx=>knd.hash x.1)
 ld:t.led = !byT w
noncomputable def SetP(knd:HeapKind prog w K)(h:Heap)(a:Addr)(b:List (K×Addr)):Prop:=∃o c d t,SP knd h a b o c d t
variable{knd:HeapKind prog w K}{A:ϑ}{E:Λ->Η->Prop}{s:Η}{a:Addr}{kas:List (K×Addr)}{o:Obj}{es:Array (Int×Λ)}{ep:Nat}{t:SetTable}
theorem SP.len(S:SP knd h a kas o es ep t):es.size=kas.length:=by rw[<-length_toList,S.es,length_map]
theorem SP.plc(S:SP knd h a kas o es ep t):t.place.size=kas.length:=by rw[<-S.ls.1,length_map]
theorem SP.fits(S:SP knd h a kas o es ep t):t.fits es.size=Γ:=by have h1:=S.len;have h2:=S.plc;have h3:=S.tt.room;have h4:=S.tt.dm;unfold SetTable.fits SetTable.fill;rw[h4];simp;lia
theorem SP.at(S:SP knd s.heap a kas o es ep t){i:Nat}(h:kas[i]?=Φ x):es[i]?=Φ (entP knd x):=by rw[<-Χ,S.es,getElem?_map,h];rfl
theorem zne(P:PKd knd)(x:knd.room A)(j:knd.is s.heap k c):∀(l:List Λ),(∀v∈l,∃g d,v=Λ.ref d/\knd.is s.heap g d)->∀{Q:Bool->Η->Prop},Q Δ s->wpAny (model prog w) A (searchCouldBeSeen (.ref c) l) Q E s:=by intro l p Q q;refine Θ (ϙ _ (λb r i=>r.1=Ψ/\i=s/\∀v∈b,∃g d,v=Λ.ref d/\knd.is s.heap g d) _ ?_ ?_ _ _ ⟨rfl,rfl,p⟩);rintro v b r i ⟨m,rfl,f⟩;obtain⟨g,d,rfl,h⟩:=f v (by simp);have n:∀v∈b,∃g d,v=Λ.ref d/\knd.is i.heap g d:=λv u=>f v (by simp[u]);by_cases e:(c==d)=Γ;simp only[e];exact Ξ ⟨rfl,rfl,n⟩;simp only[e];refine Θ (knd.quiet j ?_);refine Θ (knd.quiet h ?_);refine Θ (P.cls j ?_);refine Θ (P.cls h ?_);exact Ξ ⟨rfl,rfl,n⟩;rintro⟨y,z⟩ i ⟨m,rfl,_⟩;subst m;exact Ξ q
end
section
variable{prog:Τ}{w:ϐ}{K:Type}[DecidableEq K]{knd:HeapKind prog w K}{A:ϑ}{E:Λ->Η->Prop}{s:Η}{a c:Addr}{kas:List (K×Addr)}{o:Obj}{es:Array (Int×Λ)}{ep:Nat}{t:SetTable}{k:K}
noncomputable def Psd(kas:List (K×Addr))(t:SetTable)(k:K)(h:Int)(n:Nat):Prop:=∀b,b<n->∃(i:Nat) (x:K×Addr),t.place.toList[i]?=Φ (advN t.mask b (t.probeStart h)).j/\kas[i]?=Φ x/\x.1≠k
theorem zk8(h:Rise xs){i b j:Nat}(n:xs.toList[i]?=Φ j)(p:xs.toList[b]?=Φ j):i=b:=by obtain⟨e,q⟩:=Β.mp n;obtain⟨f,r⟩:=Β.mp p;have g:∀x y (l:x<xs.toList.length) (m:y<xs.toList.length),x<y->xs.toList[x]<xs.toList[y]:=λx y l m d=>List.pairwise_iff_getElem.mp h x y l m d;rcases Nat.lt_trichotomy i b with z|z|z;have:=g i b e f z;lia;exact z;have:=g b i f e z;lia
theorem zql(S:SP knd s.heap a kas o es ep t)(m:Psd kas t k (knd.hash k) n)(g:(advN t.mask n (t.probeStart (knd.hash k))).j∉t.place.toList):k∉kas.map (·.1):=by
 intro p;obtain⟨x,r,rfl⟩:=mem_map.mp p;obtain⟨i,b⟩:=List.mem_iff_getElem?.mp r;have d:=(Β.mp b).1;have e:i<t.place.size:=by rw[S.plc];exact d
 have f:t.place.toList[i]?=Φ t.place[i]:=by rw[Χ,ώ e]
 obtain⟨q,h,u⟩:=S.ls.2 i _ (knd.hash x.1) f (by rw[getElem?_map,b];rfl);rcases Nat.lt_trichotomy q n with z|z|z;obtain⟨y,B,j,l,v⟩:=m q z;rw[h]at j;have:=zk8 S.tt.rise f j;subst this;rw[b]at l;cases l;exact v rfl;subst z;exact g (h▸mem_of_getElem? f);exact g (u n z)
theorem zm0(S:SP knd s.heap a kas o es ep t)(h):∀v∈(es.filter (·.1==h)).toList.map (·.2),∃f b,v=Λ.ref b/\knd.is s.heap f b:=λv g=>by obtain⟨e,d,rfl⟩:=mem_map.mp g;rw[Array.toList_filter]at d;have:=(mem_filter.mp d).1;rw[S.es]at this;obtain⟨x,i,rfl⟩:=mem_map.mp this;exact⟨x.1,x.2,rfl,S.is x i⟩
theorem zgX(P:PKd knd)(S:SP knd s.heap a kas o es ep t)(hR:knd.room A)(hc:knd.is s.heap k c)(he:(advN t.mask ne (t.probeStart (knd.hash k))).j∉t.place.toList)(q1:k∈kas.map (·.1)->∀r,Q (.there r) s)(q2:∀n,Psd kas t k (knd.hash k) n->(advN t.mask n (t.probeStart (knd.hash k))).j∉t.place.toList->Q (.free (advN t.mask n (t.probeStart (knd.hash k))).j Δ) s):
  ∀(f n:Nat)(st:Option SetTable.Probe),ne-n<f->n<=ne->st.getD (t.probeStart (knd.hash k))=advN t.mask n (t.probeStart (knd.hash k))->Psd kas t k (knd.hash k) n->wpAny (model prog w) A (setSearchFrom a (.ref c) (knd.hash k) Γ f st) Q E s
 |0,n,st,hf,_,_,_=>by lia| f+1,n,st,hf,hn,hst,ps=>by
  have T:=S.tt;unfold setSearchFrom;refine Θ (ϟ S.ho S.hd S.fits ?_);dsimp only;have gw:t.gaveWay=Δ:=by unfold SetTable.gaveWay;rcases T.m4 with z|z|z|z<;>rw[z]<;>rfl
  rw[gw,hst];simp only[Υ,if_false];have okn:=zeN n (zcy t (knd.hash k));have dmn:∀m,(advN t.mask m (t.probeStart (knd.hash k))).dummy=Ψ:=λm=>by induction m with|zero=>rfl|succ m ih=>rw[zga,zmM,ih]
  have add:∀m,advN t.mask m (advN t.mask n (t.probeStart (knd.hash k)))=advN t.mask (n+m) (t.probeStart (knd.hash k)):=λm=>(zb3 _ _ _ _).symm;have more:∀(ha:Nat->Int),(∀i,ha i=(es[i]?.map (·.1)).getD 0)->∀m,(∀k',k'<m->∃(i:Nat) (hi:i<t.place.size),t.place[i]=(advN t.mask k' (advN t.mask n (t.probeStart (knd.hash k)))).j/\ha i≠knd.hash k)->Psd kas t k (knd.hash k) (n+m):=λha hh m b n' hn'=>by
   by_cases z:n'<n;exact ps n' z;obtain⟨i,hi,e1,e2⟩:=b (n'-n) (by lia);rw[add,show n+(n'-n)=n' by lia]at e1;have hl:i<kas.length:=by rw[<-S.plc];exact hi
   have hx:=Ε hl;refine⟨i,_,?_,hx,λz=>e2 ?_⟩;rw[Χ,ώ hi,e1];rw[hh,S.at hx];show knd.hash _=_;rw[z]
  split;rename_i met heq;have M:∃ha:Nat->Int,(∀i,ha i=(es[i]?.map (·.1)).getD 0)/\Mt1 t ha (knd.hash k) (advN t.mask n (t.probeStart (knd.hash k))) met:=by obtain⟨m',e',M⟩:=zfs T _ (knd.hash k) okn (dmn n);have:=Option.some.inj (e'.symm.trans heq);rw[this]at M;exact⟨_,λi=>rfl,M⟩
  obtain⟨ha,hh,M⟩:=M;cases M with
  |fr m e b=>dsimp only;refine Ξ ?_;rw[add]at e⊢;exact q2 _ (more ha hh m b) e| ca m i hi e eh b=>
   dsimp only;have hl:i<kas.length:=by rw[<-S.plc];exact hi
   have hx:=Ε hl;have ps':=more ha hh m b;have isx:=S.is _ (ϕ hl);have lne:n+m<ne:=by
    apply Classical.byContradiction;intro z;by_cases z2:ne<n;lia;by_cases z3:ne<n+m;obtain⟨i',hi',e1,_⟩:=b (ne-n) (by lia);rw[add,show n+(ne-n)=ne by lia]at e1;exact he (e1▸Array.getElem_mem_toList hi');have:ne=n+m:=by lia
    rw[add,<-this]at e;exact he (e▸Array.getElem_mem_toList hi)
   rw[S.at hx];dsimp only[entP];have tl:∀{X:Sem SetFound},X=(do
     let equal <-holding [Λ.ref kas[i].2] (eqBool (Λ.ref kas[i].2) (Λ.ref c));let __x <-setState a
     if(Γ&&equal)=Γ then pure (SetFound.there Ψ)
      else
       match __x.2.snd.sameMemory t.moves t.mask with
       |some same=>
        match if same=Γ then __x.2.snd.slot (advN t.mask m (advN t.mask n (t.probeStart (knd.hash k)))).j else SetTable.Slot.empty with
        |SetTable.Slot.live i'=>
         match __x.fst[i']? with
         | some (fst,y')=>do
           let __do_lift <-isSame y' (Λ.ref kas[i].2);let still <-pure (if __do_lift=Γ then Φ i' else Ψ)
           match still with
            | none=>do
              rule "set.search.anew"
              setSearchFrom a (Λ.ref c) (knd.hash k) Γ f Ψ
            |some i'=>
             if equal=Γ then pure (SetFound.there (Φ i'))
             else setSearchFrom a (Λ.ref c) (knd.hash k) Γ f (Φ (advN t.mask (m+1) (advN t.mask n (t.probeStart (knd.hash k)))))
         | none=>do
           let still <-pure Ψ
           match still with
            | none=>do
              rule "set.search.anew"
              setSearchFrom a (Λ.ref c) (knd.hash k) Γ f Ψ
            |some i'=>
             if equal=Γ then pure (SetFound.there (Φ i'))
             else setSearchFrom a (Λ.ref c) (knd.hash k) Γ f (Φ (advN t.mask (m+1) (advN t.mask n (t.probeStart (knd.hash k)))))
        | x=>do
          let still <-pure Ψ
          match still with
           | none=>do
             rule "set.search.anew"
             setSearchFrom a (Λ.ref c) (knd.hash k) Γ f Ψ
           |some i'=>
            if equal=Γ then pure (SetFound.there (Φ i'))
            else setSearchFrom a (Λ.ref c) (knd.hash k) Γ f (Φ (advN t.mask (m+1) (advN t.mask n (t.probeStart (knd.hash k)))))
       |x=>unsupported "set.changed-during-lookup:is-the-new-block-at-the-old-address")->wpAny (model prog w) A X Q E s:=by
    rintro X rfl;refine Θ (ϖ (knd.eqBool hR isx hc ?_));refine Θ (ϟ S.ho S.hd S.fits ?_);dsimp only;by_cases ke:kas[i].1=k;rw[decide_eq_true ke];simp only[Bool.and_self,if_true];exact Ξ (q1 (mem_map.mpr ⟨_,ϕ hl,ke⟩) _);rw[decide_eq_false ke];simp only[Bool.and_false,Υ,if_false];have sm:t.sameMemory t.moves t.mask=Φ Γ:=by unfold SetTable.sameMemory;simp
    rw[sm];dsimp only;simp only[if_true];rw[<-e,zfg T hi];dsimp only;rw[S.at hx];dsimp only[entP];refine Θ (wpAny_isSame_ref_self ?_);simp only[if_true];refine Θ (Ξ ?_);dsimp only;refine zgX P S hR hc he q1 q2 f (n+m+1) _ (by lia) (by lia) ?_ ?_;show advN t.mask (m+1) (advN t.mask n _)=_;rw[add];rfl;intro n' hn';by_cases z:n'<n+m;exact ps' n' z;have:n'=n+m:=by lia
    subst this;refine⟨i,_,?_,hx,ke⟩;rw[Χ,ώ hi,e,add]
   split;refine Θ (zne P hR hc _ (zm0 S _) ?_);simp only[Υ,if_false];exact tl rfl;exact tl rfl
  rename_i heq;obtain⟨m',e',M⟩:=zfs T _ (knd.hash k) okn (dmn n);exact(heq _ e').elim
theorem zg7{h:Heap}(b:h.get? a=Φ o)(hd:o.data=.set es ep t):(h.update a (Obj.putSet es' t')).get? a=Φ {o with data:=.set es' (ep+1) t'}:=by have:=Heap.get?_update_self (Obj.putSet es' t') b (by rw[putSet_of es' t' hd];rfl);rw[putSet_of es' t' hd]at this;exact this
theorem zii(h4:mk4 mask)(h1:mask*3<=(n+1)*5)(h2:n*5<mask*3)(h3:n<300):mk4 (SetTable.sizeAbove (SetTable.grown (n+1))-1)/\(n+1)*5<(SetTable.sizeAbove (SetTable.grown (n+1))-1)*3/\SetTable.sizeAbove (SetTable.grown (n+1))<=sizeLine:=by
 rcases h4 with rfl|rfl|rfl|rfl;have:n=4:=by lia
 subst this;exact⟨.inr (.inl (by decide)),by decide,by rw[ϔ];decide⟩;have:n=18:=by lia
 subst this;exact⟨.inr (.inr (.inl (by decide))),by decide,by rw[ϔ];decide⟩;have:n=76:=by lia
 subst this;exact⟨.inr (.inr (.inr (by decide))),by decide,by rw[ϔ];decide⟩;lia
theorem zcV{α:Type}{xs:Array α}:∀{ord:List Nat},(∀i∈ord,i<xs.size)->∀(d:α),ord.filterMap (λi=>xs[i]?)=ord.map λi=>xs.toList.getD i d
 | [],_,_=>rfl| i::ord,h,d=>by have hi:=h i (by simp);rw[ϋ,List.filterMap_cons_some (b:=xs.toList.getD i d),zcV λj hj=>h j (by simp[hj])];rw[ϊ,Χ,ώ hi];rfl
theorem zsq(P:PKd knd)(S0:SetP knd s.heap a kas)(hR:knd.room A)(hc:knd.is s.heap k c)(hn:kas.length<300)(q1:k∈kas.map (·.1)->Q Δ s)(q2:k∉kas.map (·.1)->∀h' kas',Heap.SameBut a s.heap h'->SetP knd h' a kas'->kas'.Perm (kas++[(k,c)])->Q Γ {s with heap:=h'}):
  wpAny (model prog w) A (setAddHashed a (.ref c) (knd.hash k)) Q E s:=by
 obtain⟨o,es,ep,t,S⟩:=S0;have T:=S.tt;unfold setAddHashed setAddHashedIn;refine ϖ (Θ (ϟ S.ho S.hd S.fits ?_));dsimp only;rw[show byScan (.ref c) es=Δ from rfl];simp only[Υ,if_false];obtain⟨e,e1,e2⟩:=zff T;obtain⟨ne,_,n2⟩:=zdg T.m4 (zcy t (knd.hash k)) e1;have ne1:ne<=99999\/True:=.inr trivial;obtain⟨ne,n1,n2⟩:=zdg T.m4 (zcy t (knd.hash k)) e1;have mle:t.mask<=511:=by rcases T.m4 with z|z|z|z<;>lia
 refine Θ (zgX P S hR hc (ne:=ne) (n2▸e2) (λhk r=>?_) (λn ps hj=>?_) 100000 0 Ψ (by lia) (zero_le _) rfl λn' z=>by lia);exact Ξ (q1 hk);have hk:=zql S ps hj;dsimp only;refine Θ (ϟ S.ho S.hd S.fits ?_);dsimp only;obtain⟨P1,P2,P3,P4⟩:=zpO T S.ls hj λn' hn'=>by obtain⟨i,x,p1,_⟩:=ps n' hn';exact mem_of_getElem? p1
 have ldp:(t.put (advN t.mask n (t.probeStart (knd.hash k))).j).1.led=t.led:=rfl;have mkp:(t.put (advN t.mask n (t.probeStart (knd.hash k))).j).1.mask=t.mask:=rfl;generalize t.put (advN t.mask n (t.probeStart (knd.hash k))).j=tp at P1 P2 P3 P4 ldp mkp⊢;obtain⟨t1,p⟩:=tp;dsimp only at P1 P2 P3 P4 ldp mkp⊢;have ei:(SetTable.insertAt es p (knd.hash k,Λ.ref c)).toList=(kas.take p++(k,c)::kas.drop p).map (entP knd):=by rw[zck,S.es,map_append,ϋ,List.map_take,List.map_drop];rfl
 have pk:(kas.take p++(k,c)::kas.drop p).Perm (kas++[(k,c)]):=by have h1:(kas.take p++(k,c)::kas.drop p).Perm ((k,c)::(kas.take p++kas.drop p)):=List.perm_middle;rw[List.take_append_drop]at h1;exact h1.trans (List.perm_append_singleton _ _).symm
 generalize hkp:kas.take p++(k,c)::kas.drop p=kp at ei pk;have lk:kp.length=kas.length+1:=by rw[pk.length_eq];simp
 have nd:(kp.map (·.1)).Nodup:=by rw[(pk.map (·.1)).nodup_iff,map_append,nodup_append];exact⟨S.nd,by simp,λx hx y hy=>by simp at hy;subst hy;exact λz=>hk (z▸hx)⟩
 have L1:Lies t1 (kp.map λx=>knd.hash x.1):=by rw[<-hkp,map_append,ϋ,List.map_take,List.map_drop];exact P4
 have isp:∀h',Heap.SameBut a s.heap h'->∀x∈kp,knd.is h' x.1 x.2:=λh' sb x hx=>by
  refine P.stay (h:=s.heap) ?_ λb o' e1 e2=>?_
  case refine_2=>rw[sb.2 b λz=>?_];exact e1;subst z;rw[S.ho]at e1;cases e1;exact absurd (S.ex.1.symm.trans e2) (by decide)
  rcases mem_append.mp (pk.mem_iff.mp hx) with z|z;exact S.is x z;cases mem_singleton.mp z;exact hc
 have es1:(SetTable.insertAt es p (knd.hash k,Λ.ref c)).size=kas.length+1:=by rw[<-length_toList,ei,length_map,lk]
 have dm1:t1.dummies = #[]:=P1.dm;have sl:kas.length+1<=sizeLine:=by rw[ϔ];lia
 have tail:∀t2:SetTable,t2.mask=t1.mask->t2.place=t1.place->t2.dummies=t1.dummies->t2.led=t1.led->wpAny (model prog w) A (do
   storeSet a (SetTable.insertAt es p (knd.hash k,Λ.ref c)) t2
   if(!Δ&&t2.tooFull)=Γ then do
    setRelay a (SetTable.grown (es.size+1))
    pure Γ
   else pure Γ) Q E s:=λt2 m2 pl2 d2 ld2=>by
  have L2:Lies t2 (kp.map λx=>knd.hash x.1):=by
   have:∀h j,Rch t2 h j↔Rch t1 h j:=λh j=>by unfold Rch;rw[zmI,zmI,m2,pl2]
   exact⟨by rw[pl2];exact L1.1,λi j h e1 e2=>(this h j).mpr (L1.2 i j h (by rw[<-pl2];exact e1) e2)⟩
  refine Θ (wpAny_storeSet_of S.ho S.hd ?_ (by rw[es1];exact sl));have g1:=zg7 (es':=SetTable.insertAt es p (knd.hash k,Λ.ref c)) (t':=t2) S.ho S.hd;have sb:=Heap.SameBut.update s.heap a (Obj.putSet (SetTable.insertAt es p (knd.hash k,Λ.ref c)) t2);have rm:=T.room;have plc:=S.plc;by_cases full:t2.tooFull=Γ;rw[full];simp only[Bool.not_false,Bool.and_self,if_true];refine Θ ?_;unfold setRelay;have fits1:t2.fits (SetTable.insertAt es p (knd.hash k,Λ.ref c)).size=Γ:=by unfold SetTable.fits SetTable.fill;rw[d2,dm1,pl2,m2,P3,es1,plc];have:=P1.sz;simp;lia
  refine Θ (ϟ g1 rfl fits1 ?_);dsimp only;rw[S.len];have fl:t.mask*3<=(kas.length+1)*5:=by unfold SetTable.tooFull SetTable.fill at full;rw[d2,dm1,pl2,m2,P3,plc,mkp]at full;simpa using full
  obtain⟨G1,G2,G3⟩:=zii T.m4 fl (by rw[<-plc];exact rm) hn;rw[if_neg (by lia)];obtain⟨t3,ord,l1,l2,l3,l4,l5,l6,l7,l8⟩:=zn9 (fi:=t2.finger) (mv:=t2.movedTo (SetTable.sizeAbove (SetTable.grown (kas.length+1))-1)) (ld:=t2.led) (pl:=t2.plain) G1 ((SetTable.insertAt es p (knd.hash k,Λ.ref c)).map (·.1)) (by rw[Array.size_map,es1];exact G2);rw[Array.size_map,es1]at l7;have re:t2.relaid ((SetTable.insertAt es p (knd.hash k,Λ.ref c)).map (·.1)) (SetTable.grown (kas.length+1))=Φ (t3,ord):=l1;rw[re];have ol:∀i∈ord.toList,i<(SetTable.insertAt es p (knd.hash k,Λ.ref c)).size:=λi hi=>by rw[es1];exact mem_range.mp (l7.mem_iff.mp hi)
  have fm:(ord.filterMap λi=>(SetTable.insertAt es p (knd.hash k,Λ.ref c))[i]?).toList=ord.toList.map λi=>(SetTable.insertAt es p (knd.hash k,Λ.ref c)).toList.getD i (entP knd (k,c)):=by rw[Array.toList_filterMap];exact zcV ol _
  have fs:(ord.filterMap λi=>(SetTable.insertAt es p (knd.hash k,Λ.ref c))[i]?).size=(SetTable.insertAt es p (knd.hash k,Λ.ref c)).size:=by rw[<-length_toList,fm,length_map,l7.length_eq,length_range,es1]
  refine Θ (wpAny_of_eq (a:=(ord.filterMap λi=>(SetTable.insertAt es p (knd.hash k,Λ.ref c))[i]?,t3)) (if_neg (by rw[fs];simp)) ?_);dsimp only;refine wpAny_storeSet_of g1 rfl ?_ (by rw[fs,es1];exact sl);have g2:=zg7 (es':=ord.filterMap λi=>(SetTable.insertAt es p (knd.hash k,Λ.ref c))[i]?) (t':=t3) g1 rfl;have sb2:=sb.trans (Heap.SameBut.update _ a (Obj.putSet (ord.filterMap λi=>(SetTable.insertAt es p (knd.hash k,Λ.ref c))[i]?) t3));have kq:(ord.toList.map λi=>kp.getD i (k,c)).Perm kp:=by
   have h1:=l7.map λi=>kp.getD i (k,c);have h2:(List.range (kas.length+1)).map (λi=>kp.getD i (k,c))=kp:=by apply List.ext_getElem;simp[lk];intro i g1 g2;simp[g2]
   rw[h2]at h1;exact h1
  refine Ξ (q2 hk _ (ord.toList.map λi=>kp.getD i (k,c)) sb2 ⟨_,_,_,_,g2,S.ex,rfl,?_,λx hx=>isp _ sb2 x (kq.mem_iff.mp hx),?_,l6,?_,?_⟩ (kq.trans pk));rw[fm,ei,map_map];refine Ϙ λi hi=>?_;have:=ol i hi;simp[ϊ,lk,show i<kas.length+1 by rw[<-es1];exact this];exact((kq.map (·.1)).nodup_iff).mpr nd;have:(ord.toList.map λi=>((SetTable.insertAt es p (knd.hash k,Λ.ref c)).map (·.1)).toList.getD i 0)=(ord.toList.map λi=>kp.getD i (k,c)).map λx=>knd.hash x.1:=by rw[map_map];refine Ϙ λi hi=>?_;have:=ol i hi;rw[Array.toList_map,ei,map_map];simp[ϊ,lk,show i<kas.length+1 by rw[<-es1];exact this,entP]
  rw[<-this];exact l8;rw[l3,ld2,ldp,S.ld];have full:t2.tooFull=Δ:=by simpa using full
  rw[full];simp only[Bool.and_false,Υ,if_false];refine Ξ (q2 hk _ kp sb ⟨_,_,_,_,g1,S.ex,rfl,ei,isp _ sb,nd,⟨by rw[m2];exact P1.m4,by rw[pl2];exact P1.rise,by rw[pl2,m2];exact P1.le,by rw[d2];exact dm1,?_⟩,L2,by rw[ld2,ldp,S.ld]⟩ pk);unfold SetTable.tooFull SetTable.fill at full;rw[d2,dm1]at full;simpa using full
 split;exact Θ (P.hbv hc λb=>tail _ (by split<;>rfl) (by split<;>rfl) (by split<;>rfl) (by split<;>rfl));exact Θ (Ξ (tail _ rfl rfl rfl rfl))
end
end R
section
set_option maxHeartbeats 8000000
namespace R
open PySem PySem.Spec PyProof.Rows
section
variable{prog:Τ}{w:ϐ}{K:Type}[DecidableEq K]{knd:HeapKind prog w K}{A:ϑ}{R:Result->Η->Prop}{I:Addr}{fp wr:List Addr}{G:Array GenState->Array GenState->Prop}{n:Nat}{P:Nat->Λ->Prop}{St:Nat->Η->Prop}
structure Mets(xs:List (K×Addr))(kas:List (K×Addr)):Prop where
 sub:∀x∈kas,x∈xs
 all:∀x∈xs,x.1∈kas.map (·.1)
theorem SetP.at(d:PKd knd)(S:SetP knd h a c)(e:∀o,h.get? a=Φ o->h'.get? a=Φ o)(f:∀b o,h.get? b=Φ o->o.cls=.type "tuple"->h'.get? b=Φ o):SetP knd h' a c:=by obtain⟨o,g,i,t,S⟩:=S;exact⟨o,g,i,t,e o S.ho,S.ex,S.hd,S.es,λx j=>d.stay (S.is x j) f,S.nd,S.tt,S.ls,S.ld⟩
theorem zqw(Pk:PKd knd)(hR:knd.room A.in1)(W:WalksS prog w A.in1 I fp wr G n P St)(a)(ha:a∉fp)(xs)(hx:xs.length=n)(hv:∀i v,P i v->∃x,xs[i]?=Φ x/\v=.ref x.2)(hI:∀b∈wr,∀i s,St i s->∀o,s.heap.get? b=Φ o->o.cls≠.type "tuple")(hb:n<300):
  ∀(m i:Nat)(s:Η)(kas:List (K×Addr)),n-i=m->i<=n->St i s->SetP knd s.heap a kas->Mets (xs.take i) kas->(∀x∈xs,knd.is s.heap x.1 x.2)->kas.length<=i->
   (∀s' kas',Moved (a::wr) G s s'->SetP knd s'.heap a kas'->Mets xs kas'->(∀b o,s.heap.get? b=Φ o->o.cls=.type "tuple"->s'.heap.get? b=Φ o)->kas'.length<=n->R (.ok (.ret .none)) s')->
   codeAny (model prog w) A (.builtin "set.update.loop" ⟨[.ref a,.ref I],[]⟩) R s:=by
 have aw:a∉wr:=λz=>ha (W.sub _ z);have up:∀b∈wr,b∈a::wr:=λb z=>Ν _ z;have tup:∀{i:Nat}{s s':Η},St i s->Moved wr G s s'->∀b o,s.heap.get? b=Φ o->o.cls=.type "tuple"->s'.heap.get? b=Φ o:=λst mv b o e c=>mv.heap b o (λz=>hI b z _ _ st o e c) e;intro m;induction m with
 |zero=>
  intro i s kas hm hi st hS hM hX hl fin;obtain rfl:i=n:=by lia
  refine Ϝ F.entry_set_update_loop ?_;rw[ϣ F.plain_set_update_loop _];show wpAny _ A.in1 (pyNext (.ref I)>>=_) _ _ s;refine Θ (W.done s _ _ st λs' mv=>?_);show wpAny _ A.in1 (ret Λ.none) _ _ s';rw[<-hx,List.take_length]at hM;exact Ξ (fin s' kas (mv.mono up) (hS.at Pk (λo e=>mv.heap a o aw e) (tup st mv)) hM (tup st mv) hl)
 |succ m ih=>
  intro i s kas hm hi st hS hM hX hl fin;refine Ϝ F.entry_set_update_loop ?_;rw[ϣ F.plain_set_update_loop _];show wpAny _ A.in1 (pyNext (.ref I)>>=_) _ _ s;refine Θ (W.item i s _ _ (by lia) st λv s' hP st' mv=>?_);obtain⟨x,ex,rfl⟩:=hv i v hP;have hS':=hS.at (h':=s'.heap) Pk (λo e=>mv.heap a o aw e) (tup st mv);have hX':∀x∈xs,knd.is s'.heap x.1 x.2:=λy hy=>Pk.stay (hX y hy) (tup st mv);have hx':=hX' x (mem_of_getElem? ex);have tk:xs.take (i+1)=xs.take i++[x]:=by rw[List.take_add_one,ex];rfl
  show wpAny _ A.in1 (holding [Λ.ref x.2] (setAdd a (.ref x.2))>>=_) _ _ s';refine Θ (ϖ ?_);unfold setAdd;refine ϖ (Θ (knd.pyHash hR hx' ?_));refine zsq (s:={s' with toks:=s'.toks+knd.draws x.1}) Pk hS' hR hx' (by lia) (λhk=>?_) λhk h' kas' sb hS2 pm=>?_;refine Ξ ⟨plainId_quiet F.plain_set_update_loop _,ih (i+1) _ kas (by lia) (by lia) (W.frame _ s' _ _ st' (Nat.le_add_right _ _) λb hb o e=>e) hS' ?_ hX' (by lia) λs2 kas2 mv2 hS4 hM4 tp l4=>?_⟩;rw[tk];exact⟨λy hy=>mem_append_left _ (hM.sub y hy),λy hy=>by rcases mem_append.mp hy with z|z;exact hM.all y z;cases mem_singleton.mp z;exact hk⟩;refine fin s2 kas2 (Moved.trans W.gtrans ((mv.mono up).then_heap (Nat.le_add_right _ _) λb o hb e=>e) mv2) hS4 hM4 (λb o e c=>tp b o (tup st mv b o e c) c) l4;have tb:∀b o,s'.heap.get? b=Φ o->o.cls=.type "tuple"->h'.get? b=Φ o:=λb o e c=>by rw[sb.2 b λz=>?_];exact e;subst z;obtain⟨o',_,_,_,S'⟩:=hS';rw[S'.ho]at e;cases e;exact absurd (S'.ex.1.symm.trans c) (by decide)
  refine Ξ ⟨plainId_quiet F.plain_set_update_loop _,ih (i+1) _ kas' (by lia) (by lia) (W.frame _ s' _ _ st' (Nat.le_add_right _ _) λb hb o e=>?_) hS2 ?_ (λy hy=>Pk.stay (hX' y hy) tb) (by rw[pm.length_eq];simp;lia) λs2 kas2 mv2 hS4 hM4 tp l4=>?_⟩;rw[sb.2 b λz:b=a=>ha (z▸hb)];exact e;rw[tk];refine⟨λy hy=>?_,λy hy=>?_⟩;rcases mem_append.mp (pm.mem_iff.mp hy) with z|z;exact mem_append_left _ (hM.sub y z);exact mem_append_right _ (by cases mem_singleton.mp z;exact mem_singleton.mpr rfl);rw[(pm.map (·.1)).mem_iff,map_append];rcases mem_append.mp hy with z|z;exact mem_append_left _ (hM.all y z);cases mem_singleton.mp z;exact mem_append_right _ (by simp);refine fin s2 kas2 (Moved.trans W.gtrans ((mv.mono up).then_heap (Nat.le_add_right _ _) λb o hb e=>?_) mv2) hS4 hM4 (λb o e c=>tp b o (tb b o (tup st mv b o e c) c) c) l4;rw[sb.2 b λz:b=a=>hb (by rw[z];exact Ρ)];exact e
end
section
variable{prog:Τ}{w:ϐ}{A:ϑ}{E:Λ->Η->Prop}{s:Η}
theorem ziV{K}[DecidableEq K]{knd:HeapKind prog w K}(Pk:PKd knd)(hR:∀B:ϑ,B.units<=A.units+20->knd.room B){xs}(hc:A.handled=Ψ)(hl:s.heap.IsList l its)(hx:xs.length=its.size)(hi:∀(i:Nat)(v:Λ),its[i]?=Φ v->∃x,xs[i]?=Φ x/\v=Λ.ref x.2)(hX:∀x∈xs,knd.is s.heap x.1 x.2)(hb:its.size<300)(fin:∀(g:Heap)(tk:Nat)(kas:List (K×Addr)),SetP knd g s.heap.objs.size kas->Mets xs kas->kas.length<=its.size->
   (∀b o,b<s.heap.objs.size->s.heap.get? b=Φ o->g.get? b=Φ o)->Q (.ref s.heap.objs.size) {s with heap:=g,toks:=tk}):wpAny (model prog w) A (call (.type "set") [.ref l]) Q E s:=by
 obtain⟨mc,mt,hmro⟩:=F.called_set.mro;have c1:=F.called_set.made;have c2:=F.called_set.sub;refine wpAny_call (codeAny_of_tree ?_);show wpAny _ _ (callAny (.type "set") _) _ _ _;refine Ξ ⟨Code.quiet_builtin _ (by decide +kernel),Ϝ F.entry_type_call ?_⟩;rw[ϑ.under_plain (weight_type_call_type "set" [.ref l] []) rfl];have c3:=F.called_set.notType;have c4:=F.called_set.canCreate;have c5:=F.typeCall_set_1 (.ref l)
 repeat (any_goals (first|assumption|wp_step))
 refine ϩ (zqm (.ref l) (E:=E) (Q₁:=λo z=>o=.ref s.heap.objs.size/\z={s with heap:=s.heap.push (sD0 (!byT w))}) ⟨rfl,rfl⟩) λr z hr=>?_;cases r with
 |error e=>exact hr| ok fl=>
  cases fl with
  |ret o=>
   obtain⟨rfl,rfl⟩:=hr;have g0:(s.heap.push (sD0 (!byT w))).get? s.heap.objs.size=Φ (sD0 (!byT w)):=Ι _ rfl;have g1:Η.TypeIs {s with heap:=s.heap.push (sD0 (!byT w))} (.ref s.heap.objs.size) "set":=⟨_,g0,rfl⟩;have c6:=F.called_set.init.lookup;have c7:=F.called_set.init.bind (.ref s.heap.objs.size)
   repeat (any_goals (first|assumption|wp_step))
   refine ϩ (codeAny_call_builtin (R:=wants (λr z=>r=.none/\∃g tk,z={s with heap:=g,toks:=tk}/\
    (∃kas,SetP knd g s.heap.objs.size kas/\Mets xs kas/\kas.length<=its.size)/\
    (∀b o,b<s.heap.objs.size->s.heap.get? b=Φ o->g.get? b=Φ o)) E) F.called_set.init.plain F.entry_set_init (check_set_init_1 g1 ?_)) λr2 z2 hr2=>?_
   . obtain⟨⟨oc,od,oda,osl⟩,ho,hcl,nl,hda⟩:=id hl;simp only at hcl hda;subst hcl hda;have ho':(s.heap.push (sD0 (!byT w))).get? l=Φ {cls:=.type "list",dict:=od,data:=.seq its nl,slots:=osl}:=Ω _ ho;have d1:=F.sub_list_set;have d2:=F.sub_list_frozenset;have d3:(Λ.type "list" == Λ.type "dict")=Δ:=by decide
     have ht1:(s.heap.push (sD0 (!byT w))).IsList l its:=⟨_,ho',rfl,nl,rfl⟩;unfold Builtin.«set.__init__» noKeywords Builtin.Frozenset.updateFrom;generalize hPI:pyIter=PI
     wp_walk
     subst hPI;refine wpAny_pyIter_list ht1 ?_;refine Θ (wpAny_runValue ?_);have tl:l<s.heap.objs.size:=Κ ho;have tn:l≠(s.heap.push (sD0 (!byT w))).objs.size:=by rw[ϒ];exact ne_of_lt (ϝ tl)
     have sn:s.heap.objs.size∉[(s.heap.push (sD0 (!byT w))).objs.size,l]:=by rw[ϒ];simp only[mem_cons,not_mem_nil,or_false,not_or];exact⟨ne_of_lt (ϧ _),ne_of_gt tl⟩
     refine zqw Pk (hR _ ?rm) ((Walks.list (by simp[hc]) _ l tn its).toS) s.heap.objs.size sn xs hx hi ?notT hb (its.size-0) 0 _ [] (by lia) (zero_le _)
      ⟨⟨_,Ι _ rfl,rfl,rfl⟩,ht1.push _⟩ ?start ?mets (λx hx=>Pk.stay (hX x hx) λb o e _=>Ω _ (Ω _ e)) (le_refl _) ?last
     case rm=>show A.units+1+1+1<=A.units+20;lia
     case notT=>rintro b hb i s1 ⟨⟨o',h1,h2,_⟩,_⟩ o e c;cases mem_singleton.mp hb;rw[h1]at e;cases e;exact absurd (h2.symm.trans c) (by decide)
     case mets=>exact⟨λx h=>(by cases h),λx h=>(by simp at h)⟩
     case start=>exact⟨_,#[],0,_,Ω _ g0,⟨rfl,rfl,rfl⟩,rfl,rfl,λe he=>(by cases he),List.nodup_nil,⟨.inl rfl,Pairwise.nil,λj h=>(by cases h),rfl,(show 0*5<7*3 by decide)⟩,⟨rfl,λi j h e=>(by exact nS e)⟩,rfl⟩
     case last=>rintro⟨g,gg,dd,tk,oo⟩ kas mv hS hM _ hlen;obtain rfl:gg=s.gens:=mv.gens;obtain rfl:dd=s.drawn:=mv.drawn;obtain rfl:oo=s.os:=mv.os;show wpAny _ _ _ _ _ _;refine Ξ ?_;show wpAny _ _ (ret Λ.none) _ _ _;refine Ξ ⟨rfl,g,tk,rfl,⟨kas,hS,hM,hlen⟩,λb o hb e=>mv.heap b o ?_ (Ω _ (Ω _ e))⟩;rw[ϒ];simp only[mem_cons,not_mem_nil,or_false,not_or];exact⟨ne_of_lt hb,ne_of_lt (ϝ hb)⟩
   cases r2 with
   |error e=>exact hr2| ok f2=>
    cases f2 with
    |ret r=>
     obtain⟨rfl,g,tk,rfl,⟨kas,hS,hM,hlen⟩,hk⟩:=hr2
     repeat (any_goals (first|assumption|wp_step))
     exact fin _ _ kas hS hM hlen hk
    |_=>exact hr2.elim
  |_=>exact hr.elim
end
end R
end
namespace R
open PySem PySem.Spec PyProof.Rows L2
section
variable{prog:Τ}{w:ϐ}{A:ϑ}{E:Λ->Η->Prop}{s:Η}
noncomputable def IsLp(prog:Τ)(w:ϐ)(h:Heap)(k:KP)(a:Addr):Prop:=∃o t u b n,h.get? a=Φ o/\o.cls=.type "tuple"/\o.data=.seq #[.ref b,.int k.2.1 t,.int k.2.2 u] n/\IsTupleKey (zaf prog w) h (k.1.map Sum.inl) b
theorem IsLp.typeIs(x:IsLp prog w s.heap k a):s.TypeIs (.ref a) "tuple":=let ⟨o,_,_,_,_,ho,hc,_⟩:=x;⟨o,ho,hc⟩
theorem IsLp.inj(g:IsLp prog w h x a)(i:IsLp prog w h y a):x=y:=by obtain⟨o,t,u,b,n,j,_,k,l⟩:=g;obtain⟨m,p,q,r,v,e,_,c,f⟩:=i;obtain rfl:o=m:=Option.some.inj (j.symm.trans e);rw[k]at c;injection c with d _;have d:=congrArg Array.toList d;simp only[List.cons.injEq,Λ.int.injEq,Λ.ref.injEq,and_true]at d;obtain⟨rfl,⟨z,_⟩,B,_⟩:=d;have C:=zdG (l.inj f);obtain⟨G,H,I⟩:=x;obtain⟨J,L,M⟩:=y;simp_all
theorem IsLp.keeps(x:IsLp prog w h k a)(g:h.get? d=Φ o)(hd:o.data=.dict es p)(i:Heap.SameBut d h h'):IsLp prog w h' k a:=by
 obtain⟨j,t,u,b,n,e,l,c,m⟩:=x;have f:a≠d:=by rintro rfl;obtain rfl:j=o:=Option.some.inj (e.symm.trans g);rw[hd]at c;exact by cases c
 exact⟨j,t,u,b,n,(i.2 a f).trans e,l,c,m.keeps g hd i⟩
noncomputable def zjI(prog:Τ)(w:ϐ)(k:KP):Int:=reduceHash (Builtin.Tuple.tupleHashOf [tupleKeyHash (zaf prog w) (k.1.map Sum.inl),hashInt k.2.1,hashInt k.2.2])
theorem zda(r:A.units+4<cLine)(l:IsLp prog w s.heap k a)(h:Q (zjI prog w k) {s with toks:=s.toks+(k.1.length+4)}):
  wpAny (model prog w) A (pyHash (.ref a)) Q E s:=by
 have i:=l.typeIs;obtain⟨o,t,u,b,n,m,_,p,q⟩:=l;unfold pyHash
 first|refine Θ (wpAny_cRoomFor_or (.inr (by lia)) ?_)|skip
 refine Θ (Ϩ i F.slot_tuple_hash.lookup ?_);refine Θ (Ϩ i F.slot_tuple_hash.lookup ?_);refine Θ (wpAny_callSpecialIfBoundUnlessNone?_slot i F.slot_tuple_hash (ύ F.slot_tuple_hash i F.entry_tuple_hash ?_ (F.args_tuple_hash_1 _)));show wpAny _ _ (Builtin.Tuple.tupleItemsOf (.ref a)>>=_) _ _ s;refine Θ (wpAny_tupleItemsOf m p ?_);refine Θ ?_;rw[<-Ϣ];refine ϙ _
  (λc (g:Array Int) f=>(c=[.ref b,.int k.2.1 t,.int k.2.2 u]/\g.toList=[]/\f=s)\/(c=[.int k.2.1 t,.int k.2.2 u]/\g.toList=[tupleKeyHash (zaf prog w) (k.1.map Sum.inl)]/\f={s with toks:=s.toks+(k.1.length+1)})
   \/(c=[.int k.2.2 u]/\g.toList=[tupleKeyHash (zaf prog w) (k.1.map Sum.inl),hashInt k.2.1]/\f={s with toks:=s.toks+(k.1.length+2)})
   \/(c=[]/\g.toList=[tupleKeyHash (zaf prog w) (k.1.map Sum.inl),hashInt k.2.1,hashInt k.2.2]/\f={s with toks:=s.toks+(k.1.length+3)}))
  _ ?_ ?_ _ _ (.inl ⟨rfl,rfl,rfl⟩)
 rintro x c g f (⟨e,d,rfl⟩|⟨e,d,rfl⟩|⟨e,d,rfl⟩|⟨e,d,rfl⟩);cases e;refine Θ (wpAny_pyHash_tuple ?_ q ?_);lia;exact Ξ (.inr (.inl ⟨rfl,by simp[d],by simp only[length_map]⟩));cases e;exact Θ (wpAny_pyHash_int (Ξ (.inr (.inr (.inl ⟨rfl,by simp[d],by simp[Ϯ]⟩)))));cases e;exact Θ (wpAny_pyHash_int (Ξ (.inr (.inr (.inr ⟨rfl,by simp[d],by simp[Ϯ]⟩)))));cases e;rintro g f (⟨e,d,rfl⟩|⟨e,d,rfl⟩|⟨e,d,rfl⟩|⟨e,d,rfl⟩);cases e;cases e;cases e;show wpAny _ _ (retInt (Builtin.Tuple.tupleHashOf g.toList)) _ _ _;rw[d];refine wpAny_ret_mkInt ?_;show wpAny _ _ (if(decide (-(2:Int)^63<=Builtin.Tuple.tupleHashOf [tupleKeyHash (zaf prog w) (k.1.map Sum.inl),hashInt k.2.1,hashInt k.2.2])&&decide (Builtin.Tuple.tupleHashOf [tupleKeyHash (zaf prog w) (k.1.map Sum.inl),hashInt k.2.1,hashInt k.2.2]<2^63))=Γ then _ else _) Q E _;unfold zjI reduceHash at h;by_cases j:(decide (-(2:Int)^63<=Builtin.Tuple.tupleHashOf [tupleKeyHash (zaf prog w) (k.1.map Sum.inl),hashInt k.2.1,hashInt k.2.2])&&decide (Builtin.Tuple.tupleHashOf [tupleKeyHash (zaf prog w) (k.1.map Sum.inl),hashInt k.2.1,hashInt k.2.2]<2^63))=Γ;rw[if_pos j];rw[if_pos j]at h;exact Ξ (by simpa[Ϯ]using h);rw[if_neg j];rw[if_neg j]at h;exact Θ (Ϭ (Ξ (by simpa[Ϯ]using h)))
theorem zic(T:A.units<cLine)(U:IsLp prog w s.heap x a)(L:IsLp prog w s.heap y b)(h:P (.done (.ret (.bool (decide (x=y))))) s):
  wpAny (model prog w) A (Builtin.«tuple.__eq__» ⟨[.ref a,.ref b],[]⟩) P E s:=by
 have o:=L.typeIs;obtain⟨oa,M,t,Y,na,u,_,v,B⟩:=U;obtain⟨ob,N,C,b2,nb,G,_,H,I⟩:=L;obtain⟨m,g,i⟩:=x;obtain⟨n,j,k⟩:=y;show wpAny _ _ (isInstance (.ref b) (.type "tuple")>>=_) _ _ s;refine Θ (ϭ o isSubtype_tuple_tuple ?_);refine Θ (wpAny_tupleItemsOf u v ?_);refine Θ (wpAny_tupleItemsOf G H ?_);refine Θ ?_;refine ϙ _
  (λc r J=>r.1=Ψ/\J=s/\(c=[(.ref Y,.ref b2),(.int g M,.int j N),(.int i t,.int k C)]\/(c=[(.int g M,.int j N),(.int i t,.int k C)]/\m=n)\/(c=[(.int i t,.int k C)]/\m=n/\g=j)\/(c=[]/\m=n/\g=j/\i=k)))
  _ ?_ ?_ _ _ ⟨rfl,rfl,.inl rfl⟩
 rintro⟨p,q⟩ c r J ⟨O,rfl,(e|⟨e,f⟩|⟨e,f,l⟩|⟨e,f,l,Q⟩)⟩;cases e;refine Θ (wpAny_eqBool_tuple T B I ?_);by_cases d:m=n;rw[decide_eq_true (by rw[d])];simp only[Υ];exact Ξ ⟨rfl,rfl,.inr (.inl ⟨trivial,d⟩)⟩;rw[decide_eq_false (λz=>d (zdG z))];rw[decide_eq_false (by simp[d])]at h;exact Θ (Ξ (Ξ (Ξ h)));cases e;refine Θ (wpAny_eqBool_int ?_);by_cases d:g=j;rw[show(g==j)=Γ by simp[d]];simp only[Υ];exact Ξ ⟨rfl,rfl,.inr (.inr (.inl ⟨trivial,f,d⟩))⟩;rw[show(g==j)=Δ by simp[d]];rw[decide_eq_false (by simp[d])]at h;exact Θ (Ξ (Ξ (Ξ h)));cases e;refine Θ (wpAny_eqBool_int ?_);by_cases d:i=k;rw[show(i==k)=Γ by simp[d]];simp only[Υ];exact Ξ ⟨rfl,rfl,.inr (.inr (.inr ⟨trivial,f,l,d⟩))⟩;rw[show(i==k)=Δ by simp[d]];rw[decide_eq_false (by simp[d])]at h;exact Θ (Ξ (Ξ (Ξ h)));cases e;rintro⟨r1,r2⟩ J ⟨O,rfl,(e|⟨e,f⟩|⟨e,f,l⟩|⟨e,f,l,Q⟩)⟩;cases e;cases e;cases e;subst O;refine Ξ ?_;rw[decide_eq_true (by rw[f,l,Q])]at h;exact h
theorem zdb(hu:A.units+4<cLine)(hx:IsLp prog w s.heap x a)(hy:IsLp prog w s.heap y b)(h:Q (decide (x=y)) s):
  wpAny (model prog w) A (eqBool (.ref a) (.ref b)) Q E s:=by
 unfold eqBool
 try with_reducible refine ϖ ?_
 by_cases hab:(Λ.ref a==Λ.ref b)=Γ;rw[if_pos hab];have e:a=b:=by have:=eq_of_beq hab;injection this
 subst e;obtain rfl:=hx.inj hy;exact Θ (Ϭ (Ξ (by simpa using h)))
 rw[if_neg hab];exact Θ (wpAny_richCompare_same_room hx.typeIs hy.typeIs F.slot_tuple_eq
  (ύ F.slot_tuple_eq hx.typeIs F.entry_tuple_eq (zic (by lia) hx hy ⟨_,rfl,(λe=>by cases e),Ϟ h⟩) (F.args_tuple_eq_2 _ _)) (by lia))
theorem zcq(hk:IsLp prog w s.heap k a)(h:Q Γ s):wpAny (model prog w) A (eqIsQuiet 8 (.ref a)) Q E s:=by have hT:=hk.typeIs;obtain⟨o,t,u,b,n,ho,_,hd,hi⟩:=hk;unfold eqIsQuiet;refine Θ (Ϩ hT F.slot_tuple_eq.lookup ?_);show wpAny _ _ (isInstance (.ref a) (.type "tuple")>>=_) _ _ s;refine Θ (ϭ hT isSubtype_tuple_tuple ?_);simp only[Bool.not_true,Υ,if_false];refine Θ (ϥ ho hd ?_);refine Θ ?_;show wpAny _ _ (forIn #[Λ.ref b,.int k.2.1 t,.int k.2.2 u] _ _) _ _ s;rw[<-Ϣ];refine ϙ _ (λrest r s'=>r.1=Ψ/\s'=s/\∀v∈rest,carriedByValue v=Γ\/v=.ref b) _ ?_ ?_ _ _ ⟨rfl,rfl,λv hv=>by simp only[mem_cons,not_mem_nil,or_false]at hv;rcases hv with rfl|rfl|rfl;exact .inr rfl;exact .inl rfl;exact .inl rfl⟩;rintro v rest r s' ⟨hr,rfl,hall⟩;rcases hall v Ρ with hv|rfl;rw[eqIsQuiet_byValue _ hv];refine Θ (Ξ ?_);simp only[Bool.not_true,Υ,if_false];exact Ξ ⟨rfl,rfl,λu hu'=>hall u (Ν _ hu')⟩;refine Θ (zmj hi ?_);simp only[Bool.not_true,Υ,if_false];exact Ξ ⟨rfl,rfl,λu hu'=>hall u (Ν _ hu')⟩;rintro⟨r1,r2⟩ s' ⟨hr,rfl,_⟩;simp only at hr;subst hr;exact Ξ h
end
noncomputable def zjH(prog:Τ)(w:ϐ):HeapKind prog w KP where
 is:=IsLp prog w
 hash:=zjI prog w
 draws:=λk=>k.1.length+4
 room:=λA=>A.units+4<cLine
 inj:=λhx hy=>hx.inj hy
 keeps:=λx ho hd hs=>x.keeps ho hd hs
 pyHash:=λhu hk h=>zda hu hk h
 eqBool:=λhu hx hy h=>zdb hu hx hy h
 quiet:=λhk h=>zcq hk h
section
variable{prog:Τ}{w:ϐ}{A:ϑ}{E:Λ->Η->Prop}{s:Η}
theorem zj8(n)(i)(t):hashByValue n (.int i t)=pure Γ:=by cases n<;>rfl
theorem hbv7(j:∀k∈ks,∃i:Int,k=Sum.inl i)(g:IsTupleKey (zaf prog w) s.heap ks a)(h:Q Γ s):wpAny (model prog w) A (hashByValue 7 (.ref a)) Q E s:=by
 have I:=g.typeIs;obtain⟨o,m,n,J,_,L,M⟩:=g;have d:∀{ks:List Key}{f:List Λ},ItemsAre (zaf prog w) ks f->(∀k∈ks,∃i:Int,k=Sum.inl i)->∀v∈f,∃i t,v=Λ.int i t:=by intro ks;induction ks with|nil=>intro f h _;cases h;exact λv j=>by cases j| cons x l N=>intro f h C;cases h with| @cons _ v _ f O T=>intro u p;rcases mem_cons.mp p with rfl|p;rcases zas (show zfE x u=Γ from O) with⟨i,t,q,G⟩|⟨y,t,q,G⟩;exact⟨i,t,G⟩;obtain⟨i,e⟩:=C x (by simp);rw[e]at q;cases q;exact N T (λk g=>C k (by simp[g])) u p
 have b:=d M j;refine Θ (Ϩ I F.slot_tuple_hash.lookup ?_);refine Θ (ϥ J L ?_);refine Θ ?_;rw[<-Ϣ];refine ϙ _ (λc r z=>r.1=Ψ/\z=s/\∀v∈c,∃i t,v=Λ.int i t) _ ?_ ?_ _ _ ⟨rfl,rfl,b⟩;rintro v c r z ⟨H,rfl,b⟩;obtain⟨i,t,rfl⟩:=b v Ρ;refine Θ (Ξ ?_);exact Ξ ⟨rfl,rfl,λu B=>b u (Ν _ B)⟩;rintro⟨U,Y⟩ z ⟨H,rfl,_⟩;subst H;exact Ξ h
theorem zqS(hk:IsLp prog w s.heap k a)(h:∀b,Q b s):wpAny (model prog w) A (hashByValue 8 (.ref a)) Q E s:=by have hT:=hk.typeIs;obtain⟨o,t,u,b,n,ho,_,hd,hi⟩:=hk;refine Θ (Ϩ hT F.slot_tuple_hash.lookup ?_);refine Θ (ϥ ho hd ?_);refine Θ ?_;show wpAny _ _ (forIn #[Λ.ref b,.int k.2.1 t,.int k.2.2 u] _ _) _ _ s;rw[<-Ϣ];refine ϙ _ (λrest r s'=>r.1=Ψ/\s'=s/\∀v∈rest,(∃i t,v=Λ.int i t)\/v=.ref b) _ ?_ ?_ _ _ ⟨rfl,rfl,λv hv=>by simp only[mem_cons,not_mem_nil,or_false]at hv;rcases hv with rfl|rfl|rfl;exact .inr rfl;exact .inl ⟨_,_,rfl⟩;exact .inl ⟨_,_,rfl⟩⟩;rintro v rest r s' ⟨hr,rfl,hall⟩;rcases hall v Ρ with⟨i,t,rfl⟩|rfl;refine Θ (Ξ ?_);exact Ξ ⟨rfl,rfl,λu hu'=>hall u (Ν _ hu')⟩;refine Θ (hbv7 (λk hk=>by obtain⟨i,_,rfl⟩:=mem_map.mp hk;exact⟨i,rfl⟩) hi ?_);exact Ξ ⟨rfl,rfl,λu hu'=>hall u (Ν _ hu')⟩;rintro⟨r1,r2⟩ s' ⟨hr,rfl,_⟩;subst hr;exact Ξ (h _)
theorem zju(n)(h:carriedByValue v=Γ):ofAClassStatement n v=pure Δ:=by cases v<;>first|(cases n<;>rfl)|exact nB h
theorem oac7(g:IsTupleKey (zaf prog w) s.heap ks a)(h:Q Δ s):wpAny (model prog w) A (ofAClassStatement 7 (.ref a)) Q E s:=by have j:=g.typeIs;obtain⟨o,d,n,k,_,l,m⟩:=g;unfold ofAClassStatement;refine Θ (wpAny_typeOf j ?_);dsimp only;refine Θ (Ξ ?_);refine Θ (ϥ k l ?_);refine Θ ?_;rw[<-Ϣ];refine ϙ _ (λb r e=>r.1=Ψ/\e=s/\∀v∈b,carriedByValue v=Γ) _ ?_ ?_ _ _ ⟨rfl,rfl,m.byValue⟩;rintro v b r e ⟨i,rfl,c⟩;rw[zju _ (c v Ρ)];refine Θ (Ξ ?_);exact Ξ ⟨rfl,rfl,λu f=>c u (Ν _ f)⟩;rintro⟨p,q⟩ e ⟨i,rfl,_⟩;subst i;exact Ξ h
theorem zqk(i:IsLp prog w s.heap k a)(h:Q Δ s):wpAny (model prog w) A (ofAClassStatement 8 (.ref a)) Q E s:=by have l:=i.typeIs;obtain⟨o,t,u,b,n,m,_,p,q⟩:=i;unfold ofAClassStatement;refine Θ (wpAny_typeOf l ?_);dsimp only;refine Θ (Ξ ?_);refine Θ (ϥ m p ?_);refine Θ ?_;rw[<-Ϣ];refine ϙ _ (λd r g=>r.1=Ψ/\g=s/\∀v∈d,carriedByValue v=Γ\/v=.ref b) _ ?_ ?_ _ _ ⟨rfl,rfl,λv f=>by simp only[mem_cons,not_mem_nil,or_false]at f;rcases f with rfl|rfl|rfl;exact .inr rfl;exact .inl rfl;exact .inl rfl⟩;rintro v d r g ⟨j,rfl,c⟩;rcases c v Ρ with f|rfl;rw[zju _ f];refine Θ (Ξ ?_);exact Ξ ⟨rfl,rfl,λu e=>c u (Ν _ e)⟩;refine Θ (oac7 q ?_);exact Ξ ⟨rfl,rfl,λu e=>c u (Ν _ e)⟩;rintro⟨x,y⟩ g ⟨j,rfl,_⟩;subst j;exact Ξ h
theorem lpPK:PKd (zjH prog w) where
 hbv:=λhk h=>zqS hk h
 cls:=λhk h=>zqk hk h
 stay:=λz k=>(by obtain⟨o,t,u,b,n,ho,hc,hd,o',its,n',ho',hc',hd',hi⟩:=z;exact ⟨o,t,u,b,n,k _ _ ho hc,hc,hd,o',its,n',k _ _ ho' hc',hc',hd',hi⟩)
end
section
variable{ρ:Type}{lt:ρ->ρ->Prop}[DecidableRel lt]
noncomputable def rkG(lt:ρ->ρ->Prop)[DecidableRel lt](a:List ρ)(k:ρ):Int:=((a.filter λx=>decide (lt x k)).length:Nat)
structure Ord(lt:ρ->ρ->Prop):Prop where
 irr:∀r,¬lt r r
 tra:∀{a b c},lt a b->lt b c->lt a c
 tot:∀{a b},a≠b->lt a b\/lt b a
theorem zg3(o:Ord lt)(d:a∈c)(h:lt a b):rkG lt c a<rkG lt c b:=by unfold rkG;have:=zfN (q:=λx=>decide (lt x b)) (l:=c) (a:=a) (λx _ e=>decide_eq_true (o.tra (of_decide_eq_true e) h)) d (decide_eq_false (o.irr a)) (decide_eq_true h);lia
theorem zi4(o:Ord lt)(d:a∈c)(f:b∈c):lt a b↔rkG lt c a<rkG lt c b:=by refine⟨zg3 o d,λh=>?_⟩;by_cases e:a=b;lia;rcases o.tot e with z|z;exact z;have:=zg3 o f z;lia
theorem zns(o:Ord lt)(d:a∈c)(f:b∈c)(h:rkG lt c a=rkG lt c b):a=b:=by by_cases e:a=b;exact e;rcases o.tot e with z|z;have:=zg3 o d z;lia;have:=zg3 o f z;lia
end
variable[Mks]
section
variable{ρ:Type}[Inhabited ρ]{lt:ρ->ρ->Prop}[DecidableRel lt]{RA KA:Hp->Addr->ρ->Prop}{κ:SortKind}
variable{X:Cx}{pins:List (Addr×Obj)}{σ:L2.St}{H:Hp}{s:Η}{A':ϑ}{f D kS:Addr}{rows:List ρ}
structure SortK(X:Cx)(pins:List (Addr×Obj))(σ:L2.St)(A':ϑ)(H:Hp)(f:Addr)(RA KA:Hp->Addr->ρ->Prop)(κ:SortKind)(lt:ρ->ρ->Prop)[DecidableRel lt]:Prop where
 upR:∀{H1 H2 a r},Kp H1 H2->RA H1 a r->RA H2 a r
 upK:∀{H1 H2 b r},Kp H1 H2->KA H1 b r->KA H2 b r
 call:∀{H1 s1 a r},Inv X pins σ H1 s1->Ext [] H [] H1->RA H1 a r->wpAny (model X.prog X.w) A' (call (.ref f) [.ref a]) (λy s'=>∃b H',y=.ref b/\Inv X pins σ H' s'/\KA H' b r/\Ext [] H1 [] H'/\Un (frs X.stack) [] H1 H' s1.heap s'.heap) (λ_ _=>False) s1
 kind:∀{H1 s1}{ks:List Λ}{Q:SortKind->Η->Prop}{E:Λ->Η->Prop},Inv X pins σ H1 s1->(∀k∈ks,∃b r,k=Λ.ref b/\KA H1 b r)->1<=ks.length->Q κ s1->wpAny (model X.prog X.w) A' (keyKind' ks.toArray) Q E s1
 less:∀{H1 s1 b c r r'}{Q:Bool->Η->Prop}{E:Λ->Η->Prop},Inv X pins σ H1 s1->KA H1 b r->KA H1 c r'->Q (decide (lt r r')) s1->wpAny (model X.prog X.w) A' (keyLt' κ (.ref b) (.ref c)) Q E s1
 ord:Ord lt
 fn:∀{H1 b r r'},KA H1 b r->KA H1 b r'->r=r'
end
end R
namespace R
open PySem PySem.Spec PyProof.Rows L2
section
variable{prog:Τ}{w:ϐ}{A:ϑ}{E:Λ->Η->Prop}{s:Η}
theorem zrX(t:A.units<cLine)(u:IsLp prog w s.heap x a)(v:IsLp prog w s.heap y b)(q:Q (decide (LtP x y)) s):
  wpAny (model prog w) A (keyLt' (tuples' Δ) (.ref a) (.ref b)) Q E s:=by
 obtain⟨I,J,L,M,N,m,_,n,j⟩:=u;obtain⟨O,T,U,Y,nb,o,_,p,k⟩:=v;obtain⟨c,d,e⟩:=x;obtain⟨f,g,h⟩:=y;refine PySem.W.kat_lt m n o p (kat_cons (wpAny_eqBool_tuple t j k ?_));by_cases i:c=f;rw[show decide ((c.map Sum.inl:List Key)=f.map Sum.inl)=Γ from decide_eq_true (by rw[i])];refine PySem.W.kat_yes (kat_cons (wpAny_eqBool_int ?_));by_cases l:d=g;rw[show(d==g)=Γ by simp[l]];refine PySem.W.kat_yes (kat_cons (wpAny_eqBool_int ?_));by_cases r:e=h;rw[show(e==h)=Γ by simp[r]];refine PySem.W.kat_yes (PySem.W.kat_nil ?_);rw[decide_eq_false (by subst i l r;exact za8 _)]at q;exact q;rw[show(e==h)=Δ by simp[r]];refine kat_no (kat_one _ _ (wpAny_lt_int ?_));have:decide (LtP (c,d,e) (f,g,h))=decide (e<h):=by apply Bool.eq_iff_iff.mpr;rw[decide_eq_true_eq];subst i l;unfold LtP;rw[zb1];simp
 rw[this]at q;exact q;rw[show(d==g)=Δ by simp[l]];refine kat_no (kat_one _ _ (wpAny_lt_int ?_));have:decide (LtP (c,d,e) (f,g,h))=decide (d<g):=by apply Bool.eq_iff_iff.mpr;rw[decide_eq_true_eq];subst i;unfold LtP;rw[zb1];simp[l]
 rw[this]at q;exact q;rw[show decide ((c.map Sum.inl:List Key)=f.map Sum.inl)=Δ from decide_eq_false (λz=>i (zdG z))];obtain⟨i1,B,C⟩:=ziK j;obtain⟨i2,G,H⟩:=ziK k;refine kat_no (kat_one _ _ (HT.lt_tupInts B G C H t ?_));have:decide (LtP (c,d,e) (f,g,h))=HT.lexLt c f:=by rw[<-zjO];apply Bool.eq_iff_iff.mpr;unfold LtP;simp[i]
 rw[this]at q;exact q
theorem zjG:∀{vs:List Λ},(∀v∈vs,∃c k,v=Λ.ref c/\IsLp prog w h k c)->∃a:List Λ,KatTups h vs a/\a.length=vs.length/\∀v∈a,∃(b:Addr) (ks:List Key),v=Λ.ref b/\IsTupleKey (zaf prog w) h ks b
 | [],_=>⟨[],KatTups.nil,rfl,λv h=>by cases h⟩| v::vs,e=>by obtain⟨c,k,rfl,o,t,u,b,n,f,g,i,j⟩:=e v (by simp);obtain⟨a,l,m,p⟩:=zjG (vs:=vs) λx q=>e x (by simp[q]);refine⟨.ref b::a,KatTups.cons f g i rfl l,by simp[m],λv d=>?_⟩;rcases mem_cons.mp d with rfl|d;exact⟨b,_,rfl,j⟩;exact p v d
theorem zn3{vs:List Λ}(d:∀v∈vs,∃c k,v=Λ.ref c/\IsLp prog w s.heap k c)(j:1<=vs.length)(q:Q (tuples' Δ) s):wpAny (model prog w) A (keyKind' vs.toArray) Q E s:=by obtain⟨l,e,m,f⟩:=zjG d;refine PySem.W.kat_kind (T:=.type "tuple") e (by lia) (λv g=>?_) rfl q;obtain⟨b,p,rfl,o,a,n,h,i,r,t⟩:=f v g;have:PySem.W.Looks (model prog w) s.heap (typeOf (.ref b)) o.cls:=(PySem.W.Looks.ld h).andThen .now;rw[i]at this;exact this
theorem ordP:Ord LtP:=⟨za8,λh k=>zdy h k,λh=>zfz h⟩
noncomputable def adrV:Λ->Addr|.ref a=>a|_=>0
noncomputable def kofV(xs:List (KP×Addr))(v:Λ):KP:=((xs.find? λx=>decide (x.2=adrV v)).map (·.1)).getD ([],0,0)
theorem zeh(a:∀x∈xs,IsLp prog w h x.1 x.2)(b:x∈xs):kofV xs (.ref x.2)=x.1:=by
 unfold kofV;cases e:xs.find? λy=>decide (y.2=adrV (.ref x.2)) with
 |none=>exact absurd (List.find?_eq_none.mp e x b) (by simp[adrV])| some y=>
  have c:=List.mem_of_find?_eq_some e;have d:y.2=x.2:=by have:=List.find?_some e;exact of_decide_eq_true this
  exact(a y c).inj (d▸a x b)
theorem zfA(hu:A.units<cLine)(B:s.heap.get? a=Φ (seqObj "list" (xs.map λx=>Λ.ref x.2).toArray n))(h64:xs.length<1000)(nd:(xs.map (·.1)).Nodup)(q:∀x∈xs,IsLp prog w s.heap x.1 x.2)(h:∀ys:List (KP×Addr),ys.Perm xs->(ys.map (·.1)).Pairwise LtP->P (.done (.ret .none)) {s with heap:=sortedHeap s.heap a (xs.map λx=>Λ.ref x.2) (ys.map λx=>Λ.ref x.2).toArray}):
  wpAny (model prog w) A (Builtin.«list.sort» ⟨[.ref a],[]⟩) P E s:=by
 rw[list_sort_plain];generalize p:(xs.map λx=>Λ.ref x.2)=f at B h;have hl:f.length=xs.length:=by rw[<-p,length_map]
 have ha:a<s.heap.objs.size:=Κ B;refine Θ (listItems_at B rfl ?_);refine Θ (listUpdate_at B rfl ?_ (by rw[size_toArray,ϔ];lia) (zero_le _));obtain⟨Y,H⟩:∃Y,(s.heap.update a (Obj.mapSeq λ_=>(#[]:Array Λ))).get? a=Φ (seqObj "list" #[] Y):=⟨_,get?_update_seq B (λ_=>#[])⟩;refine Θ (seqEpoch_at H rfl ?_);refine Θ (wpAny_newTuple ?_ (by show f.length<=_;rw[ϔ];lia));refine Θ (wpAny_newList ?_ (zero_le _));refine ϖ ?_;have I:(((s.heap.update a (Obj.mapSeq λ_=>(#[]:Array Λ))).push (seqObj "tuple" f.toArray 0)).push (seqObj "list" #[] 0)).get? a=Φ (seqObj "list" #[] Y):=Ω _ (Ω _ H);have J:∀b o,b≠a->s.heap.get? b=Φ o->(((s.heap.update a (Obj.mapSeq λ_=>(#[]:Array Λ))).push (seqObj "tuple" f.toArray 0)).push (seqObj "list" #[] 0)).get? b=Φ o:=λb o hb e=>Ω _ (Ω _ ((Heap.get?_update_other _ _ (Ne.symm hb)).trans e));have r:∀x∈xs,IsLp prog w (((s.heap.update a (Obj.mapSeq λ_=>(#[]:Array Λ))).push (seqObj "tuple" f.toArray 0)).push (seqObj "list" #[] 0)) x.1 x.2:=λx g=>lpPK.stay (q x g) λb o e c=>J b o (λz=>by subst z;rw[B]at e;cases e;exact absurd (show Λ.type "list"=Λ.type "tuple" from c) (by decide)) e
 show wpAny (model prog w) A _ P E {s with heap:=((s.heap.update a (Obj.mapSeq λ_=>(#[]:Array Λ))).push (seqObj "tuple" f.toArray 0)).push (seqObj "list" #[] 0)};dsimp only;have fin:∀(st:SortSt)(ys:List (KP×Addr)),ys.Perm xs->(ys.map (·.1)).Pairwise LtP->failedOf st=Ψ->(arrOf st).map (·.2)=(ys.map λx=>Λ.ref x.2).toArray->wpAny (model prog w) A (do
   let l:=(<-seqEpoch a) != Y
   Builtin.List.listUpdate (.ref a) λ_=>(arrOf st).map (·.2)
   if let Φ e:=failedOf st then rule "list.sort.comparison-raised";throw e
   if l then rule "list.sort.modified";raiseError "ValueError" "list modified during sort"
   ret .none) P E {s with heap:=((s.heap.update a (Obj.mapSeq λ_=>(#[]:Array Λ))).push (seqObj "tuple" f.toArray 0)).push (seqObj "list" #[] 0)}:=λst ys pm as hf he=>by
  rw[he,hf];refine Θ (seqEpoch_at I rfl ?_);refine Θ (listUpdate_at I rfl ?_ (zero_le _) (by rw[size_toArray,length_map,pm.length_eq,ϔ];lia));simp only[bne_self_eq_false,Υ,if_false];exact Ξ (h ys pm as)
 by_cases G:f.toArray.size<2;rw[if_pos G,if_pos G];have h2':xs.length<2:=by rw[<-hl];simpa using G
 refine Θ (Ξ ?_);rw[StateT.run_pure];refine Θ (Ξ ?_);refine fin _ xs (List.Perm.refl _) ?_ rfl ?_;rw[pairwise_map,List.pairwise_iff_getElem];intro i j hi L M;lia;show((f.toArray.zip f.toArray).map (·.2))=_;apply Array.toList_inj.mp;rw[Array.toList_map,Array.toList_zip,p];exact List.map_snd_zip (by lia);have h2':2<=f.length:=by simpa using G
 rw[if_neg G,if_neg G];refine Θ (zn3 (λv hv=>by rw[<-p]at hv;obtain⟨x,g,rfl⟩:=mem_map.mp hv;exact⟨x.2,x.1,rfl,r x g⟩) (by lia) ?_);generalize hT:f.zip f=T;have eT:T=xs.map λx=>((Λ.ref x.2,Λ.ref x.2):Keyed):=by rw[<-hT,<-p,List.zip_map']
 have tl:T.length=xs.length:=by rw[eT,length_map]
 have sz:(SortSt.mk' (tuples' Δ) (f.toArray.zip f.toArray) #[] 7 Ψ)=SortSt.mk' (tuples' Δ) T.toArray #[] 7 Ψ:=by congr 1;apply Array.toList_inj.mp;rw[Array.toList_zip,hT]
 rw[sz];have k:∀y∈T,∃x∈xs,y=(Λ.ref x.2,Λ.ref x.2):=λy m=>by rw[eT]at m;obtain⟨x,g,rfl⟩:=mem_map.mp m;exact⟨x,g,rfl⟩
 have rw1:=Sr.runs_wp (prog:=prog) (w:=w) (A:=A) (E:=E) (s:={s with heap:=((s.heap.update a (Obj.mapSeq λ_=>(#[]:Array Λ))).push (seqObj "tuple" f.toArray 0)).push (seqObj "list" #[] 0)}) (κ:=tuples' Δ) (T:=T) (rk:=λy=>rkG LtP (xs.map (·.1)) (kofV xs y.1)) (st:=SortSt.mk' (tuples' Δ) T.toArray #[] 7 Ψ)
  (Q:=λ_ d=>Sr.SB (tuples' Δ) T d/\Sr.So (λy=>rkG LtP (xs.map (·.1)) (kofV xs y.1)) (arrOf d) 0 T.length) (λx y C g m hC=>?_) ?_ ⟨List.Perm.refl _,rfl,rfl⟩ rfl (by lia) λd b so=>⟨b,so⟩
 refine Θ (Ϥ rw1 ?_ λ_ _ z=>z);rintro⟨⟨⟩,d⟩ s' ⟨rfl,b,so⟩;have inv1:∀y∈T,((Λ.ref (kofV xs y.1,adrV y.1).2,Λ.ref (kofV xs y.1,adrV y.1).2):Keyed)=y:=λy m=>by obtain⟨x,_,rfl⟩:=k y m;rfl
 have N:T.map (λy=>(kofV xs y.1,adrV y.1))=xs:=by rw[eT,map_map];refine Eq.trans (Ϙ λx g=>?_) (List.map_id xs);show(kofV xs (Λ.ref x.2),adrV (Λ.ref x.2))=x;rw[zeh q g];rfl
 have pm:((arrOf d).toList.map λy=>(kofV xs y.1,adrV y.1)).Perm xs:=by have:=b.perm.map λy=>(kofV xs y.1,adrV y.1);rw[N]at this;exact this
 refine fin d _ pm ?_ b.failed ?_;rw[map_map,pairwise_map,List.pairwise_iff_getElem];intro i j hi L M;simp only[length_toList]at hi L;have h3:=so i j (zero_le _) M (by rw[<-b.size];exact L);rw[Sr.Kr_at hi,Sr.Kr_at L]at h3;simp only[Ϡ];obtain⟨x,g,ex⟩:=k _ (b.mem hi);obtain⟨y,m,ey⟩:=k _ (b.mem L);show LtP (kofV xs (arrOf d)[i].1) (kofV xs (arrOf d)[j].1);have m1:kofV xs (arrOf d)[i].1∈xs.map (·.1):=by rw[ex];exact mem_map.mpr ⟨x,g,(zeh q g).symm⟩
 have m2:kofV xs (arrOf d)[j].1∈xs.map (·.1):=by rw[ey];exact mem_map.mpr ⟨y,m,(zeh q m).symm⟩
 exact(zi4 ordP m1 m2).mpr h3;apply Array.toList_inj.mp;rw[Array.toList_map,map_map];refine Ϙ λy m=>?_;obtain⟨x,_,rfl⟩:=k y (b.perm.mem_iff.mp m);rfl;obtain⟨O,t,rfl⟩:=k x g;obtain⟨U,u,rfl⟩:=k y m;refine zrX hu (r O t) (r U u) ?_;have:decide (LtP O.1 U.1)=decide ((λy:Keyed=>rkG LtP (xs.map (·.1)) (kofV xs y.1)) (Λ.ref O.2,Λ.ref O.2)<(λy:Keyed=>rkG LtP (xs.map (·.1)) (kofV xs y.1)) (Λ.ref U.2,Λ.ref U.2)):=by apply Bool.eq_iff_iff.mpr;rw[decide_eq_true_eq,decide_eq_true_eq];dsimp only;rw[zeh q t,zeh q u];exact zi4 ordP (mem_map.mpr ⟨O,t,rfl⟩) (mem_map.mpr ⟨U,u,rfl⟩)
 rw[this];exact hC;have:T.map (λy=>rkG LtP (xs.map (·.1)) (kofV xs y.1))=(xs.map (·.1)).map (rkG LtP (xs.map (·.1))):=by rw[eT,map_map,map_map];refine Ϙ λx g=>?_;show rkG _ _ (kofV xs (Λ.ref x.2))=_;rw[zeh q g];rfl
 rw[this,List.nodup_iff_pairwise_ne,pairwise_map];exact nd.imp_of_mem λ{a b} ha hb ne e=>ne (zns ordP ha hb e)
end
end R
namespace R
open PySem PySem.Spec PyProof.Rows L2
variable[Mks]
section
variable{K:Frag}{ι:List Addr}{H H2:Hp}{S:R.St}
theorem zfH:∀{a:List D}{xs:List V}{p:List Int},RVs K ι H a xs->zaG a=Φ p->xs=p.map V.int
 | [],xs,p,r,e=>by cases(show xs=[] from r);simp[zaG]at e;subst e;rfl| d::a,xs,p,r,e=>by
  obtain⟨v,g,rfl,c,f⟩:=r;unfold zaG at e;rw[mapM_cons]at e;cases d with
  |int i=>
   cases b:a.mapM zeV with
   |none=>rw[b]at e;exact nS e
   |some q=>rw[b]at e;cases e;rw[zfH f (show zaG a=Φ q from b),show v=.int i from c];rfl
  |_=>exact nS e
end
end R
namespace R
open PySem PySem.Spec PyProof.Rows L2
noncomputable def LpH(H:Hp)(k:KP)(c:Addr):Prop:=∃b,H c=Φ (.tup [.ref b,.int k.2.1,.int k.2.2])/\H b=Φ (.tup (k.1.map V.int))
theorem LpH.up(h:LpH H k c)(ht:∀b xs,H b=Φ (.tup xs)->H' b=Φ (.tup xs)):LpH H' k c:=let ⟨b,h1,h2⟩:=h;⟨b,ht _ _ h1,ht _ _ h2⟩
theorem zmt(ok:HOk P w H h)(e:LpH H k c):IsLp P w h k c:=by obtain⟨b,f,g⟩:=e;obtain⟨_,i,d,o,j,l,n,m⟩:=(show ObjOk P w H h c (.tup _) from ok c _ f);cases d with| @cons _ p _ v q d=>cases d with| @cons _ x _ y r d=>cases d with| @cons _ z _ A s d=>cases d;cases(show p=Λ.ref b from q);obtain⟨t,rfl⟩:=r;obtain⟨u,rfl⟩:=s;exact⟨o,t,u,b,n,j,l,m,zhj (ks:=k.1.map Sum.inl) ok (a:=b) (by rw[map_map];exact g)⟩
theorem zfu{d k:Type}{g:d->k}{l m:List k}(p:l.Perm m):∀xs:List d,m=xs.map g->∃ys:List d,l=ys.map g/\ys.Perm xs:=by
 induction p with
 |nil=>intro xs h;exact⟨xs,h,List.Perm.refl _⟩| cons x p n=>
  intro xs h;cases xs with
  |nil=>cases h
  |cons y xs=>rw[ϋ]at h;injection h with f c;obtain⟨ys,e,q⟩:=n xs c;exact⟨y::ys,by rw[ϋ,f,e],q.cons y⟩
 |swap x y l=>
  intro xs h
  match xs,h with| a::b::xs,h=>rw[ϋ,ϋ]at h;injection h with f c;injection c with c o;exact⟨b::a::xs,by rw[ϋ,ϋ,f,c,o],List.Perm.swap ..⟩
 |trans p q i j=>intro xs h;obtain⟨ys,e,r⟩:=j xs h;obtain⟨s,t,u⟩:=i ys e;exact⟨s,t,u.trans r⟩
noncomputable def SetO2(prog:Τ)(w:ϐ)(o:Obj)(a:List (KP×Addr)):Prop:=∃b c t,o.ExactSet/\o.data=.set b c t/\t.fits b.size=Γ/\TOk (!byT w) t/\b.size<scanBound/\b.toList.map (·.2)=a.map (λx=>Λ.ref x.2)/\(a.map (·.1)).Nodup
theorem SetO2.of(x:SetP (zjH prog w) h a kas)(hn:kas.length<300):∃o,h.get? a=Φ o/\SetO2 prog w o kas:=by obtain⟨o,es,ep,t,S⟩:=x;have fits:t.fits es.size=Γ:=S.fits;have len:es.size=kas.length:=S.len;exact⟨o,S.ho,es,ep,t,S.ex,S.hd,fits,⟨S.ld,S.tt.rise⟩,by rw[len];unfold scanBound;lia,by rw[S.es,map_map];rfl,S.nd⟩
section
variable[Mks]{X:Cx}
theorem ziE:∀{xs:List (KP×Addr)}{us:List Λ},Vals (xs.map λx=>V.ref x.2) us->us=xs.map λx=>Λ.ref x.2
 | [],_,h=>by cases h;rfl| x::l,_,h=>by cases h with|cons a b=>rw[ϋ,<-ziE b,show _=Λ.ref x.2 from a]
theorem zd7:∀xs:List (KP×Addr),Vals (xs.map λx=>V.ref x.2) (xs.map λx=>Λ.ref x.2)
 | []=>.nil|_::l=>.cons rfl (zd7 l)
theorem zkX(m:X.calm=Γ)(Y:X.A.units+40<cLine):za0 X (.type "set") (λxs H Q=>∃(a:Addr) (ys:List (KP×Addr)),xs=[.ref a]/\SqL X.K H a (ys.map λy=>V.ref y.2)/\ys.length<300/\(∀y∈ys,LpH H y.1 y.2)/\∀p,H p=Ψ->∀o c,SetO2 X.prog X.w o c->Mets ys c->c.length<=ys.length->Q (.ref p) (upd H p (.frz o (.own 0)))):=by
 intro j s σ H xs us Q I r h;obtain⟨a,ys,rfl,n,t,w,q⟩:=h;obtain⟨u,rfl,z⟩:=r.one;cases(show u=Λ.ref a from z);have fresh:=I.hok.fresh (le_refl s.heap.objs.size);have A:X.A.handled=Ψ:=I.ok.hd m;obtain⟨C,E,G,J⟩:=I.list n;have L:=ziE E;subst L;have f:(ys.map λx=>Λ.ref x.2).toArray.size=ys.length:=by simp
 refine ziV (knd:=zjH X.prog X.w) lpPK (λB hB=>show B.units+4<cLine by lia) (xs:=ys) A G.isList f.symm (λi v e=>?_) (λx M=>zmt I.hok (w x M)) (by rw[f];exact t) λg tk c N O d T=>?_;rw[List.getElem?_toArray,getElem?_map]at e;cases k:ys[i]? with
 |none=>rw[k]at e;exact nS e
 |some y=>rw[k]at e;cases e;exact⟨y,rfl,rfl⟩
 rw[f]at d;obtain⟨o,l,U⟩:=SetO2.of N (by lia);exact⟨.ref s.heap.objs.size,_,I.laid (o:=.frz o (.own 0)) (λb o e=>T b o (Κ e) e) (le_refl _) ⟨l,_,l⟩,rfl,q _ fresh o c U O d⟩
theorem zgf(G:X.calm=Γ)(hu:X.A.units+40<cLine):za0 X (.builtin "sorted") (λxs H Q=>∃(a:Addr) (o:Obj) (d:List (KP×Addr)),xs=[.ref a]/\H a=Φ (.frz o (.own 0))/\SetO2 X.prog X.w o d/\d.length<300/\(∀x∈d,LpH H x.1 x.2)/\∀(p:Addr)(ys:List (KP×Addr)),H p=Ψ->ys.Perm d->(ys.map (·.1)).Pairwise LtP->Q (.ref p) (upd H p (.lst (ys.map λy=>V.ref y.2)))):=by
 intro v s σ H xs us Q I r h;obtain⟨a,o,d,rfl,J,⟨es,ep,t,L,M,N,O,T,U,Y⟩,hn,hk,q⟩:=h;obtain⟨u,rfl,ru⟩:=r.one;cases(show u=Λ.ref a from ru);have ho:s.heap.get? a=Φ o:=(show ObjOk X.prog X.w H s.heap a (.frz o (.own 0)) from I.hok a _ J).1;have hA:X.A.handled=Ψ:=I.ok.hd G;refine Calls.call_function_entry kind_sorted plain_sorted entry_sorted (args_sorted1 _) ?_;unfold Builtin.«sorted»;refine Θ (m:=checkCount "sorted" 1 1 _) (Ξ ?_);refine Θ (zdh hA ho L M N O T λi d' tk z A k hp=>?_);obtain⟨l,rfl,j⟩:=zfu hp d U;have zl:l.length<300:=by rw[j.length_eq];exact hn
 refine Θ (wpAny_newList ?_ (by rw[length_map,ϔ];lia));have f:(i.push (seqObj "list" (l.map λx=>Λ.ref x.2).toArray 0)).get? i.objs.size=Φ (seqObj "list" (l.map λx=>Λ.ref x.2).toArray 0):=Ι _ rfl;refine Θ (ϖ (ύ slot_list_sort ⟨_,f,rfl⟩ entry_list_sort (zfA (prog:=X.prog) (w:=X.w) (by show X.A.units+1+1<cLine;lia) f (by lia) (((j.map (·.1)).nodup_iff).mpr Y) (λx hx=>lpPK.stay (zmt I.hok (hk x (j.mem_iff.mp hx))) λb o e _=>Ω _ (A b o e)) λys B as=>⟨_,rfl,?_⟩) (args_list_sort _)));have g:s.heap.objs.size<=i.objs.size:=le_of_lt k;obtain⟨c,n⟩:=sortedHeap_at (out:=(ys.map λx=>Λ.ref x.2).toArray) f;refine Ξ ⟨_,rfl,.ref i.objs.size,_,zj2 (s:=s) (d':=d') (t':=tk) (o:=.lst (ys.map λy=>V.ref y.2)) I (λb u e=>?_) g ⟨?_,_,c,zd7 ys,?_⟩,rfl,q _ ys (I.hok.fresh g) (B.trans j) as⟩;have C:=A b u e;have E:=Κ C;rw[sortedHeap_old (ne_of_lt E) (Nat.lt_of_lt_of_eq (ϝ E) (ϒ ..).symm)];exact Ω _ C;rw[length_map,B.length_eq,ϔ];lia;exact n
end
end R
namespace R
open PySem PySem.Spec PyProof.Rows L2
variable[Mks]
theorem zrW{K}(r:RV K ι H d v)(e:lpOf d=Φ k):∃a,v=.ref a/\LpH H k a:=by
 unfold lpOf at e;split at e;rename_i g b w;cases f:zaG g with
 |none=>rw[f]at e;exact nS e
 |some p=>rw[f]at e;cases e;obtain⟨a,u,rfl,h,x,y,rfl,i,j,z,rfl,l,m,n,rfl,o,q⟩:=r;cases(show n=[] from q);obtain⟨c,A,rfl,s,t⟩:=i;cases(show j=.int b from l);cases(show m=.int w from o);exact⟨a,rfl,c,h,by rw[s,zfH t f]⟩
 exact nS e
theorem zmq{K}:∀{b:List D}{xs:List V}{ks:List KP},RVs K ι H b xs->b.mapM lpOf=Φ ks->∃ys:List (KP×Addr),xs=ys.map (λy=>V.ref y.2)/\ys.map (·.1)=ks/\∀y∈ys,LpH H y.1 y.2
 | [],xs,ks,r,e=>by cases(show xs=[] from r);simp at e;subst e;exact⟨[],rfl,rfl,λy h=>by cases h⟩| d::b,xs,ks,r,e=>by
  obtain⟨v,o,rfl,i,j⟩:=r;rw[mapM_cons]at e;cases c:lpOf d with
  |none=>rw[c]at e;exact nS e
  |some k=>
   cases f:b.mapM lpOf with
   |none=>rw[c,f]at e;exact nS e
   |some q=>rw[c,f]at e;cases e;obtain⟨ys,rfl,l,m⟩:=zmq j f;obtain⟨a,rfl,n⟩:=zrW i c;refine⟨(k,a)::ys,rfl,by rw[ϋ,l],λy g=>?_⟩;rcases mem_cons.mp g with rfl|g;exact n;exact m y g
theorem zpF{K}:∀{ys:List (KP×Addr)},(∀y∈ys,LpH H y.1 y.2)->RVs K ι H ((ys.map (·.1)).map lpD) (ys.map λy=>V.ref y.2)
 | [],_=>rfl| y::ys,h=>by obtain⟨b,a,c⟩:=h y (by simp);refine⟨_,_,rfl,⟨y.2,_,rfl,a,_,_,rfl,⟨b,_,rfl,c,RVs.ints _⟩,_,_,rfl,rfl,_,_,rfl,rfl,rfl⟩,zpF λz d=>h z (by simp[d])⟩
section
variable{X:Cx}{T:Tab}{cf:CF}{k:Nat}{N:List Str}{sc:Scope}{pos p p2 pos':Pos}
theorem zkZ(G:Gd T cf k N sc X)(J:Gl X "sorted"/\X.mg "sorted"=Ψ)(L:Gl X "set"/\X.mg "set"=Ψ)(he:PE X e (tE X.K cf ca))(m:zai e=Γ):
  PE X (.Call (.Name "sorted" p) [.Call (.Name "set" p2) [e] [] pos'] [] pos) (tE X.K cf (.ssetP ca)):=by
 have M:X.A.units+40<cLine:=by have:=G.hu;lia
 have t:=zaN (p:=p2) (pos:=pos') (zkX G.calm M) L.1 L.2 zkB (zaA he m) (by decide) (by decide) (zaj m [] X.env);refine PE.imp (zbY (zgf G.calm M) J.1 J.2 zf8 (zaA t rfl) (by decide) (by decide) rfl) λσ H Qv j=>?_;obtain⟨δ,ι,S,Q,hs,hh,w,q⟩:=j;change W (Out.bind _ _) _ at w;simp only[zab] at w;refine tE.run hs hh w λd v n O S1 x1 hs1 r r1 w1=>?_;obtain⟨U,g,u⟩:=zau w1;unfold zjF at g;split at u;rename_i c;cases d with
 |ref l=>
  obtain⟨a,h1,rfl⟩:=r1;dsimp only at g;cases A:S1.get l with
  |none=>rw[A]at g;exact nS g
  |some ob=>
   rw[A]at g;cases ob with
   |lst ds=>
    obtain⟨a',Y,zs,ha,rz⟩:=r.obj _ _ A;rw[h1]at Y;cases Y;obtain⟨ys,rfl,ek,B⟩:=zmq rz g;have yl:ys.length<300:=by rw[<-ek,length_map]at c;exact c
    obtain⟨c2,w3⟩:=zcd u;refine⟨a,ys,rfl,SqL.of ha,yl,B,λpr f o C so s hl=>⟨pr,o,C,rfl,zao,so,by lia,λx hx=>(B x (s.sub x hx)).up λb xs e=>by rw[zak (zav e f)];exact e,λl zs hl E as=>?_⟩⟩;have ee:Ext n O n (upd O pr (.frz o (.own 0))):=Ext.new f _;have I:zcs U=zs.map (·.1):=by refine zdf (λz=>?_) (zbE U) as;rw[zcr,<-ek];constructor;intro i;obtain⟨y,h,rfl⟩:=mem_map.mp i;rw[(E.map (·.1)).mem_iff];exact s.all y h;intro i;rw[(E.map (·.1)).mem_iff]at i;obtain⟨y,h,rfl⟩:=mem_map.mp i;exact mem_map.mpr ⟨y,s.sub y h,rfl⟩
    rw[I]at w3;refine q _ _ (Lf.up (x1.trans ee) (Lf.lst (r.new f _) hl (zpF λz i=>?_) w3));exact(B z (s.sub z (E.mem_iff.mp i))).up λb xs e=>by rw[zak (zav e f)];exact e
   |_=>exact nS g
 |_=>exact nS g
 exact u.elim
end
end R
namespace R
open PySem PySem.Spec PyProof.Rows L2
section
variable{X:Cx}{pins:List (Addr×Obj)}{σ:L2.St}{H:Hp}{s:Η}{A:ϑ}{E:Λ->Η->Prop}{a c:Addr}{k:K3}{ws:List (K3×Addr×V)}
noncomputable def val3(ws:List (K3×Addr×V))(k:K3):Option V:=(ws.find? λx=>decide (x.1=k)).map (·.2.2)
theorem zl8(ok:HOk P w H h)(e:Rd H a (.ext (TriO a ws)))(d:TriK H ws):ws.length<=sizeLine/\(a==sysModules)=Δ/\∃xs,Paired P3 ws xs/\h.DictOfH (zbh P w) a xs:=by
 obtain⟨⟨z,y,xs,r,o,i,j,n,b,u,v,B⟩,_,_⟩:=(show ObjOk P w H h a (.ext _) from e.ok ok);refine⟨z,y,xs,r,o,i,j,n,b,u,?_,?_,B⟩;rw[v];exact Ϙ λx _=>(zgF x).symm;have f:∀{l:List (K3×Addr×V)}{m:List (K3×Addr×Λ)},Paired P3 l m->TriK H l->∀x∈m,(zbh P w).is h x.1 x.2.1:=by
  intro l m q;induction q with
  |nil=>intro _ x b;exact by cases b
  | @cons p q I J g t C=>intro d x b;rcases mem_cons.mp b with e|b;subst e;rw[<-g.1,<-g.2.1];exact key3_of ok (d p Ρ);exact C (λy G=>d y (Ν _ G)) x b
 exact f r d
theorem zp8(k)(h:Paired P3 ws xs):RelO (val3 ws k) ((atKey xs k).map (·.2)):=by induction h with|nil=>exact trivial| @cons p q f g b t d=>unfold val3 atKey at d⊢;rw[Ϫ,Ϫ];by_cases e:p.1=k;rw[decide_eq_true e,decide_eq_true (b.1▸e)];exact b.2.2;rw[decide_eq_false e,decide_eq_false (b.1▸e)];exact d
theorem zoy(o:A.units+5<cLine)(I:Inv X pins σ H s)(e:Rd H a (.ext (TriO a ws)))(i:TriK H ws)(j:Key3 H k c)(l:RelV d r)(h:∀f s',Inv X pins σ H s'->RelV ((val3 ws k).getD d) f->Q f s'):
  wpAny (model X.prog X.w) A (call (.builtin "dict.get") [.ref a,.ref c,r]) Q E s:=by
 obtain⟨z,m,n,b,g⟩:=zl8 I.hok e i;exact call_meetsIn PySem.F.slot_dict_get g.typeIs PySem.F.entry_dict_get (PySem.F.args_dict_get_3 _ _ _) (meetsH_dict_get_default (zbh X.prog X.w) a c m r) ⟨(show A.units+1+4<cLine by omega),k,n,key3_of I.hok j,g,h _ _ (I.tok _) ((zp8 k b).getD l)⟩
end
section
variable[Mks]
noncomputable def zo6(h i j:TE):TE:=λd H Q=>h d H λx e=>∃a g,x=.ref a/\Rd e a (.ext (TriO a g))/\TriK e g/\i d e λy l=>j d l λz b=>∃k c f,y=.ref c/\Key3 b k c/\Rd b a (.ext (TriO a f))/\TriK b f/\Q ((val3 f k).getD z) b
theorem zlu(w:X.A.units+5<cLine)(A:PE X o B)(C:PE X e E)(G:PE X f J)(m:M2 X o "get" i e f j):PE X (.Call (.Attribute o "get" i) [e,f] [] j) (zo6 B E J):=by intro g s l H Q I h;refine wpAny_Call_method m.base m.few m.line PySem.F.plainAttrs_dict PySem.F.slot_dict_get PySem.F.type_dict_get (thn (A g s l H _ I h) λu L v=>?_);obtain⟨x,M,r,N,a,ws,O,d,T,U⟩:=v;subst O;obtain rfl:u=Λ.ref a:=N;obtain⟨_,hd,xs,_,t⟩:=zl8 r.hok d T;refine⟨t.typeIs,λb q=>?_,?_⟩;cases q;obtain⟨Y,_,_,h1,h2,_⟩:=t;exact⟨Y,h1,h2.2.1⟩;rw[m.trees];refine Calls.callWith_builtin rfl (Calls.evalArgs_plain (Calls.spliced_cons (thn (C g L l M _ r U) λiv s2 z=>eY z λy H2 I2 ry q2=>Calls.spliced_cons (thn (G g s2 l H2 _ I2 q2) λfv s3 ⟨z,H3,I3,rz,k,c,vs,ey,ek,d3,n,q3⟩=>Calls.spliced_nil ?_))));subst ey;cases(show iv=Λ.ref c from ry);exact zoy w I3 d3 n ek rz λw' s4 I4 p=>⟨_,H3,I4,p,q3⟩
theorem R3s.val{K}(k):∀{a:List (K3×D)}{b:List (K3×Addr×V)},R3s K ι H a b->(zbd a k=Ψ/\val3 b k=Ψ)\/∃d v,zbd a k=Φ d/\val3 b k=Φ v/\RV K ι H d v
 | [],_,r=>by rw[show _=[] from r];exact .inl ⟨rfl,rfl⟩| (j,d)::a,b,r=>by
  obtain⟨c,v,w,rfl,_,f,g⟩:=r;by_cases e:j=k;subst e;exact .inr ⟨d,v,by simp[zbd],by simp[val3],f⟩;have h:zbd ((j,d)::a) k=zbd a k:=by simp[zbd,e]
  have i:val3 ((j,c,v)::w) k=val3 w k:=by simp[val3,e]
  rw[h,i];exact R3s.val k g
theorem zk3(G:Gd T cf k N sc X)(ho:PE X o (tE X.K cf co))(he:PE X e (tE X.K cf ce))(hx:PE X x (tE X.K cf cx))(g:zai e=Γ)(b:zai x=Γ)(h:zbz o=Γ)(hl:(i.endLine==m.line)=Γ):
  PE X (.Call (.Attribute o "get" i) [e,x] [] m) (tE X.K cf (.dget3 co ce cx)):=by
 refine PE.imp (zlu (by have:=G.hu;lia) ho he hx ⟨zd8 h "get" X.env _,by rw[zaj g,zaj b];rfl,hl,by rw[zaj g,zaj b];rfl⟩) λσ H Qv j=>?_;obtain⟨δ,ι,S,Q,hs,hh,w,q⟩:=j;change W (Out.bind _ _) _ at w;simp only[zab] at w;refine tE.run hs hh w λd v ι1 H1 S1 x1 t n U w1=>?_;obtain⟨kvs,hb,w2⟩:=zau w1;obtain⟨l,rfl,g1⟩:=zgI hb;have u:=U;obtain⟨a,h1,rfl⟩:=U;obtain⟨a',Y,nd,ws,ha,rk⟩:=n.obj l _ g1;rw[h1]at Y;cases Y;refine⟨a,ws,rfl,.inl ha,rk.triK,?_⟩;refine tE.run t n w2 λy vy ι2 H2 S2 x2 A B r2 w3=>?_;refine tE.run A B w3 λz vz ι3 H3 S3 C hs3 f r3 w4=>?_;obtain⟨o,E,s⟩:=zau w4;obtain⟨kv3,I,E⟩:=Option.bind_eq_some_iff.mp E;obtain⟨k',hk,rfl⟩:=Option.map_eq_some_iff.mp E;obtain⟨l',e',g3⟩:=zgI I;cases e';have up:=(x1.trans x2).trans C;obtain⟨a2,J,p⟩:=u.ext (x2.trans C);cases p;obtain⟨a',j3,nd3,L,M,r⟩:=f.obj l _ g3;rw[J]at j3;cases j3;obtain⟨c,rfl,hc⟩:=zgC (r2.ext C) hk;refine⟨k',c,L,rfl,hc,.inl M,r.triK,?_⟩;rcases R3s.val k' r with⟨O,p⟩|⟨d',v',O,p,rv⟩;rw[O]at s;rw[p];exact q _ _ (Lf.up up (Lf.of f r3 s));rw[O]at s;rw[p];exact q _ _ (Lf.up up (Lf.of f rv s))
end
end R
namespace R
open PySem PySem.Spec PyProof.Rows L2
variable[Mks]
section
variable{T:Tab}{cf:CF}{k:Nat}{N:List Str}{sc:Scope}{X:Cx}{pos p:Pos}
theorem zfI(h:zd5 S d=Φ (c,a)):∃l,d=.ref l/\S.get l=Φ (.ins c a):=by
 cases d with
 |ref l=>
  refine⟨l,rfl,?_⟩;unfold zd5 at h;dsimp only at h;cases e:S.get l with
  |none=>rw[e]at h;exact nS h
  |some o=>rw[e]at h;cases o with|ins f b=>cases h;rfl|_=>exact nS h
 |_=>exact nS h
theorem ne_of{b:Type}[BEq b]{xs:List b}{a:b}(h:xs.contains a=Γ):xs≠[]:=λe=>by rw[e]at h;simp at h
theorem Gd.clsAt(G:Gd T cf k N sc X)(d:T.flds≠[]\/T.inits≠[]\/T.isas≠[]){c:Nat}(h:Mks.cl[c]?=Φ C):∃x,T.cls[c]?=Φ x/\Cls X.K C/\X.mg x=Φ (.ref C)/\∀f,T.flds.contains f=Γ->NoAttr X.K C f:=by have a:=lt_of_lt_of_le (Β.mp h).1 (G.tab.cln d);obtain⟨j,b,e,g,i⟩:=G.tab.cls c T.cls[c] (Ε a);rw[h]at b;cases b;exact⟨_,Ε a,e,g,i⟩
theorem zpq(G:Gd T cf k N sc X)(o:PE X a (tE X.K cf r))(g:zbz a=Γ)(m:T.flds.contains f=Γ):PE X (.Attribute a f pos) (tE X.K cf (.fld r f)):=by
 refine PE.imp (zp5 o (zd8 g f X.env _)) λσ H Qv z=>?_;obtain⟨δ,ι,S,Q,s,t,w,q⟩:=z;change W (Out.bind _ _) _ at w;simp only[zab] at w;refine tE.run s t w λd v x H1 y A B h E I=>?_;obtain⟨u,e,J⟩:=zau I;cases j:zd5 y d with
 |none=>rw[j]at e;exact nS e
 |some L=>obtain⟨c,M⟩:=L;rw[j]at e;have e:M.lookup f=Φ u:=e;obtain⟨l,rfl,O⟩:=zfI j;obtain⟨b,U,rfl⟩:=E;obtain⟨b',n,C,Y,ws,hC,hb,rf⟩:=h.obj l _ O;rw[U]at n;cases n;obtain⟨_,_,cl,_,na⟩:=G.clsAt (.inl (ne_of m)) hC;rcases rf.look f with⟨i,_⟩|⟨d',v',i,e2,rv⟩;rw[e]at i;cases i;rw[e]at i;cases i;exact⟨b,C,Y,ws,v',rfl,hb,cl,na f m,e2,q _ _ (Lf.up A (Lf.of h rv J))⟩
theorem zhc(hbase:attributeBase o name env (eval o env)=eval o env)(hfew:((backTo pos (starEach args env)).all (λx=>!x.1)&&(backToKw pos (keywordEach [] env)).all (λx=>x.1.isSome)
   && decide (args.length+([]:List Keyword).length+(if([]:List Keyword).isEmpty then 0 else 1)<30))=Γ)(hline:(apos.endLine==pos.line)=Γ)(h:wpAny (model prog w) A (eval o env) (λov s₁=>∀pl,wpAny (model prog w) A (getMethod ov name pl) (λfx s₂=>wpAny (model prog w) A (callWith pos fx.1 fx.2 (backTo pos (starEach args env)) (backToKw pos (keywordEach [] env))) Q E s₂) E s₁) E s):
  wpAny (model prog w) A (eval (.Call (.Attribute o name apos) args [] pos) env) Q E s:=by
 rw[arm_eval_Call,hbase];refine Θ (Ϥ h (λov s₁ h₁=>?_) λ_ _ e=>e);refine Θ (wpAny_standAt ?_);have hform:methodCallForm (args.length+([]:List Keyword).length) (backTo pos (starEach args env)) (backToKw pos (keywordEach [] env))=Γ:=hfew;have hpos:methodCallPos Γ o env apos pos=pure pos:=by unfold methodCallPos;simp[hline]
 unfold methodCall;rw[hform];refine Θ (ϖ (Ϥ (h₁ _) (λfx s₂ h₂=>?_) λ_ _ e=>e));exact Θ (wpAny_of_eq hpos h₂)
def ziN(X:Cx)(k:Nat)(m:Str)(i:TE)(t:TA):TE:=λb H Q=>i b H λx c=>∃(a C j:Addr) (d:List (Str×V)) (e:Addr) (f:FuncData) (g:List Str) (h:Sp),x=.ref a/\c a=Φ (.ins C j d)/\Cls X.K C/\Meth X.K C m e/\
 FnOk X.prog X.w X.K X.mg X.base CX0 k e f g h/\Binds X.K f g []/\d.lookup m=Ψ/\t b c λl n=>h (x::l) n Q E0
theorem zlp(B:PE X o E)(G:Room k X.A)(J:PA X (e::es) t)(d:attributeBase o m X.env (eval o X.env)=eval o X.env)(g:((backTo pos (starEach (e::es) X.env)).all (λx=>!x.1)&&(backToKw pos (keywordEach [] X.env)).all (λx=>x.1.isSome)
   && decide ((e::es).length+([]:List Keyword).length+(if([]:List Keyword).isEmpty then 0 else 1)<30))=Γ)(f:(i.endLine==pos.line)=Γ)(j:starEach (e::es) X.env=(Δ,eval e X.env)::starEach es X.env)(n:(backTo pos (starEach es X.env)).any (·.1)=Δ):
  PE X (.Call (.Attribute o m i) (e::es) [] pos) (ziN X k m E t):=by
 intro b s v H Q I h;refine zhc d g f (thn (B b s v H _ I h) λu L z pl=>?_);obtain⟨x,M,w,O,a,C,dx,fs,fa,fd,ps,sp,U,Y,c,y,F,hb,l,q⟩:=z;subst U;obtain rfl:u=Λ.ref a:=O;refine zek w Y c y l ?_;refine callWith_K I.ok.mod.kin y.kp (thn (J pos b L v M _ w q) λus s2 z=>eY z λvs H2 A r q2=>⟨A.kIn,?_⟩) j n;exact zg2 (vs:=.ref a::vs) F G hb .nil zh2 A (.cons rfl r) (by rw[append_nil];exact q2)
theorem zjn(j:PE X o n)(r:Room k X.A)(b:attributeBase o m X.env (eval o X.env)=eval o X.env)(d:(e.endLine==pos.line)=Γ):
  PE X (.Call (.Attribute o m e) [] [] pos) (ziN X k m n tNil):=by
 intro f s t H Q I h;refine zhc b rfl d (thn (j f s t H _ I h) λu B z E=>?_);obtain⟨x,G,g,v,a,C,J,L,M,O,U,Y,w,y,c,i,F,A,l,q⟩:=z;subst w;obtain rfl:u=Λ.ref a:=v;refine zek g y c i l ?_;exact callWith_K0 g.kIn i.kp (zg2 (vs:=[.ref a]) F r A .nil zh2 g (.cons rfl .nil) (by exact q))
noncomputable def mtB(T:Tab)(m:Str)(a:List (Nat×Nat)):Bool:=a.all λp=>T.mts.contains (p.1,m,p.2)
theorem zid{tb:List (Nat×Nat)}(h:tb.lookup c=Φ f):(c,f)∈tb:=by
 induction tb with
 |nil=>exact nS h
 |cons p r ih=>simp only[List.lookup]at h;split at h;rename_i e;cases h;have:=eq_of_beq e;subst this;simp;exact Ν _ (ih h)
theorem zhb(G:Gd T cf k N sc X)(U:mtB T m Y=Γ)(ht:∀{σ:L2.St}{H:Hp}{E:List V->Hp->Prop},tAs X.K cf j σ H E->t σ H E)(h:tE X.K cf (.meth m Y co j) σ H Qv):ziN X k m (tE X.K cf co) t σ H Qv:=by
 obtain⟨δ,ι,S,Q,hs,hh,w,q⟩:=h;change W (Out.bind _ _) _ at w;simp only[zab] at w;refine tE.run hs hh w λd v ι1 H1 S1 x1 n a I w1=>?_;obtain⟨pr,ei,w2⟩:=zau w1;obtain⟨c,fs⟩:=pr;obtain⟨f,ef,i⟩:=zau w2;split at i;rename_i o;rw[zab]at i;obtain⟨l,rfl,hl⟩:=zfI ei;have s:=I;obtain⟨b,i1,rfl⟩:=I;obtain⟨b',J,C,dx,L,hC,hb,rf⟩:=a.obj l _ hl;rw[i1]at J;cases J;have u:=all_eq_true.mp U (c,f) (zid ef);obtain⟨C',fa,fd,ps,g,cl,me,F,bi⟩:=(G.tab.mth c m f u).ex;rw[hC]at g;cases g;have y:L.lookup m=Ψ:=by rcases rf.look m with⟨_,e2⟩|⟨d',v',e1,_,_⟩;exact e2;dsimp only at o;rw[e1]at o;exact nB o
 refine⟨b,C,dx,L,fa,fd,ps,_,rfl,hb,cl,me,F,bi,y,ht ?_⟩;refine tAs.run n a i λds vs z H2 S2 M hs2 A r2 O=>?_;unfold appW at O;refine⟨z,S2,.ref l::ds,⟨.ref b,vs,rfl,s.ext M,r2⟩,A,?_⟩;obtain⟨d,T',e,w5⟩:=ziv O;rw[e];exact λv H' B x r hT=>q v H' (Lf.up (x1.trans M) ⟨d,B,T',x,r,hT,w5⟩);exact i.elim
theorem zni(G:Gd T cf k N sc X)(f:mtB T m g=Γ)(i:PE X o (tE X.K cf j))(l:PA X (e::es) (tAs X.K cf d))(a:(e::es).all zai=Γ)(b:zbz o=Γ)(n:(c.endLine==pos.line)=Γ)(v:(e::es).length<29):
  PE X (.Call (.Attribute o m c) (e::es) [] pos) (tE X.K cf (.meth m g j d)):=by
 have q:=a;rw[all_cons,Α]at a;refine PE.imp (zlp i G.room l (zd8 b m X.env _) ?_ n (zaj a.1 es X.env) (zbn a.2)) λw H y h=>zhb G f (λz=>z) h;have r:=zbn (pos:=pos) (env:=X.env) q;have s:(backTo pos (starEach (e::es) X.env)).all (λx=>!x.1)=Γ:=by rw[all_eq_true];intro x t;have:=List.any_eq_false.mp r x t;simpa using this
 have u:decide ((e::es).length+([]:List Keyword).length+(if([]:List Keyword).isEmpty then 0 else 1)<30)=Γ:=by rw[decide_eq_true_eq];show(e::es).length+0+0<30;lia
 rw[s,u];rfl
theorem zha(b:a=.nil)(h:tAs X.K cf a σ H c):tNil σ H c:=by subst b;obtain⟨f,d,S,Q,g,e,w,q⟩:=h;exact q [] H ⟨[],d,S,Ext.refl _ _,rfl,e,by simpa[evEs]using w⟩
theorem zk1(G:Gd T cf k N sc X)(c:mtB T m d=Γ)(e:PE X o (tE X.K cf f))(a:zbz o=Γ)(g:(b.endLine==pos.line)=Γ):
  PE X (.Call (.Attribute o m b) [] [] pos) (tE X.K cf (.meth m d f .nil)):=
 PE.imp (zjn e G.room (zd8 a m X.env _) g) λi H j h=>zhb G c (λz=>zha rfl z) h
theorem Vals.nons:∀j:Nat,Vals (List.replicate j .non) (List.replicate j Λ.none)
 |0=>.nil|j+1=>.cons rfl (Vals.nons j)
theorem zhf(G:Gd T cf k N sc X)(O:Mks.cl[c]?=Φ C)(U:∀{σ:L2.St}{H:Hp}{E:List V->Hp->Prop},tAs X.K cf n σ H E->t σ H E)(h:tE X.K cf (.mk c f x j n) σ H Y):zmY C (spF X.K cf f) (List.replicate j V.non) E0 t σ H Y:=by
 obtain⟨δ,ι,S,Q,hs,hh,w,q⟩:=h;change W (Out.bind _ _) _ at w;simp only[zab] at w;refine U (tAs.run hs hh w λds vs a i o x1 hs1 s r1 I=>?_);intro y g hy l u;have b:=s.new l (.own y);have J:Ext a i a (upd i g (.own y)):=Ext.new l _;have m:(upd i g (.own y)) y=Ψ:=by rw[zak (Ne.symm u)];exact hy
 have z:=b.obj' m (.ins C g []) (.ins c []) ⟨C,g,[],O,zao,rfl⟩;have L:Ext a (upd i g (.own y)) (a++[y]) (upd (upd i g (.own y)) y (.ins C g [])):=Ext.obj b m _;unfold appW at I;obtain⟨d,T',e,A⟩:=ziv I;refine⟨a++[y],o.push (.ins c []),.ref o.len::(ds++List.replicate j .non),⟨.ref y,_,rfl,⟨y,b.last y,rfl⟩,RVs.append ((r1.ext J).ext L) (RVs.nons j)⟩,z,?_⟩;rw[e];intro v H' B M r hT;split at A;rename_i hn;cases d with| non=>refine⟨r,q _ _ ⟨.ref o.len,B,T',((x1.trans J).trans L).trans M,⟨y,zci M.pre (b.last y),rfl⟩,hT,A⟩⟩|_=>exact nB hn
 exact A.elim
theorem zrx(G:Gd T cf k N sc X)(d:T.inits.contains (c,f,j)=Γ)(l:T.cls[c]?=Φ x)(m:isGl sc x=Γ)(hd:(x==("__debug__":Str))=Δ)(n:PA X (e::es) (tAs X.K cf b))(a:(e::es).all zai=Γ):
  PE X (.Call (.Name x p) (e::es) [] pos) (tE X.K cf (.mk c f x j b)):=by
 obtain⟨C,r,s,t,g,M,F,o⟩:=(G.tab.ini c f j d).ex;obtain⟨u,i,_,q,_⟩:=G.clsAt (.inr (.inl (ne_of d))) g;rw[l]at i;cases i;rw[all_cons,Α]at a;exact PE.imp (znM M F G.room' (G.gl m) q o (Vals.nons j) zh2 n hd (zaj a.1 es X.env) (zbn a.2)) λv H w h=>zhf G g (λz=>z) h
theorem zpm(G:Gd T cf k N sc X)(a:T.inits.contains (c,f,j)=Γ)(e:T.cls[c]?=Φ x)(g:isGl sc x=Γ)(hd:(x==("__debug__":Str))=Δ):
  PE X (.Call (.Name x p) [] [] pos) (tE X.K cf (.mk c f x j .nil)):=by
 obtain⟨C,m,n,o,b,M,F,i⟩:=(G.tab.ini c f j a).ex;obtain⟨q,d,_,l,_⟩:=G.clsAt (.inr (.inl (ne_of a))) b;rw[e]at d;cases d;exact PE.imp (zlq M F G.room' (G.gl g) l i (Vals.nons j) zh2 hd) λr H s h=>zhf G b (λz=>zha rfl z) h
end
section
variable{prog:Τ}{w:ϐ}{A:ϑ}{E:Λ->Η->Prop}{s:Η}
theorem zit(n:Nat):Builtin.Slice.sliceAdjust Ψ Ψ (-1) (n:Int)=((n:Int)-1,-1):=rfl
theorem zhZ(n:Nat):Builtin.Slice.slicePlaces ((n:Int)-1) (-1) (-1)=n:=by unfold Builtin.Slice.slicePlaces;rw[if_neg (by decide)];by_cases h:(n:Int)-1 > -1;rw[if_pos h,show - -1=(1:Int) from rfl,Int.ediv_one];lia;rw[if_neg h];lia
theorem zlj(xs:Array Λ):((List.range xs.size).filterMap λ(m:Nat)=>xs[(((xs.size:Int)-1)+(m:Int) * -1).toNat]?).toArray=xs.toList.reverse.toArray:=by
 congr 1;have e:∀m∈List.range xs.size,xs[(((xs.size:Int)-1)+(m:Int) * -1).toNat]?=Φ ((xs.toList.reverse[m]?).getD .none):=by
  intro m b;have b:=mem_range.mp b;have:(((xs.size:Int)-1)+(m:Int) * -1).toNat=xs.size-1-m:=by omega
  rw[this,List.getElem?_reverse (by simpa using b),length_toList];have:xs.size-1-m<xs.size:=by omega
  rw[Χ,ώ this];rfl
 have c:∀(f:Nat->Option Λ)(g:Nat->Λ)(l:List Nat),(∀m∈l,f m=Φ (g m))->l.filterMap f=l.map g:=by intro f g l;induction l with|nil=>intro _;rfl| cons a l d=>intro h;rw[List.filterMap_cons,h a Ρ,ϋ,d λm b=>h m (Ν _ b)]
 rw[c _ _ _ e];refine ext_getElem? λi=>?_;rw[getElem?_map];by_cases h:i<xs.size;rw[List.getElem?_range h];have:i<xs.toList.reverse.length:=by simpa using h
 rw[Option.map_some,Ε this];rfl;rw[ϛ (by simpa using h),ϛ (by simpa using h)];rfl
theorem zc0{n:Nat}(hs:s.heap.IsSliceOf sl .none .none vs)(ps:IsPart vs (Φ (-1)))(h:Q ((n:Int)-1,-1,n) s):wpAny (model prog w) A (Builtin.Slice.sliceApplied (.ref sl) (pure (n:Int))) Q E s:=by
 obtain⟨os,hos,hcs,hds⟩:=id hs;unfold Builtin.Slice.sliceApplied Builtin.Slice.sliceFields;refine Θ (Θ (ϯ hos hds (x:=.none) rfl (Θ (ϯ hos hds (x:=.none) rfl (Θ (ϯ hos hds (x:=vs) rfl (Ξ ?_)))))));cases ps with|int i t=>
 refine Θ (HT.slicePart_ (.int _ t) ?_);show wpAny _ _ (if((-1:Int)==0)=Γ then _ else _) _ _ s;rw[if_neg (by decide)];refine Θ (HT.slicePart_ .none (Θ (HT.slicePart_ .none (Θ (Ξ ?_)))));show wpAny _ _ (match Builtin.Slice.sliceAdjust Ψ Ψ (-1) (n:Int) with|(lo,hi)=>pure (lo,(-1:Int),Builtin.Slice.slicePlaces lo hi (-1))) _ _ s;rw[zit n];show wpAny _ _ (pure ((n:Int)-1,(-1:Int),Builtin.Slice.slicePlaces ((n:Int)-1) (-1) (-1))) _ _ s;rw[zhZ];exact Ξ h
theorem zcQ(b:IsTup s.heap t items)(i:s.heap.IsSliceOf j .none .none vs)(k:IsPart vs (Φ (-1)))(h:Q (.ref s.heap.objs.size) {s with heap:=s.heap.push {cls:=.type "tuple",data:=.seq items.toList.reverse.toArray}})(c:items.size<=sizeLine):wpAny (model prog w) A (getItem (.ref t) (.ref j)) Q E s:=by
 have a:sizeOk (.seq items.toList.reverse.toArray):=by show items.toList.reverse.toArray.size<=sizeLine;rw[size_toArray,List.length_reverse];exact c
 obtain⟨os,d,e,l⟩:=id i;have f:s.TypeIs (.ref j) "slice":=⟨os,d,e⟩;unfold getItem
 try with_reducible refine ϖ ?_
 refine Θ (wpAny_sequenceKey b.typeIs (by decide) ?_);refine Θ (Ϛ b.typeIs PyProof.Rows.slot_tuple_getitem
  (ύ PyProof.Rows.slot_tuple_getitem b.typeIs entry_tuple_getitem ?_ (args_tuple_getitem _ _)))
 show wpAny _ _ (Builtin.Tuple.tupleItemsOf (.ref t)>>=_) _ _ s;refine Θ (tupleItemsOf_ b ?_);refine Θ (wpAny_typeOf f ?_);refine Θ (zc0 i k ?_);have g:¬((((items.size:Int)-1)==0&&(-1:Int)==1&&items.size==items.size)=Γ):=by intro q;rw[Α,Α]at q;exact absurd q.1.2 (by decide)
 show wpAny _ _ (if(((items.size:Int)-1)==0&&(-1:Int)==1&&items.size==items.size)=Γ then _ else _) _ _ s;rw[if_neg g,zlj]
 first
  |exact Θ (ό (Ξ ⟨_,rfl,Ξ h⟩) a)
  |exact Θ (ό (Θ (Ξ (Ξ ⟨_,rfl,Ξ h⟩))) a)
  |exact Θ (Θ (ό (Ξ (Ξ ⟨_,rfl,Ξ h⟩)) a))
  |exact Θ (Θ (ό (Ξ ⟨_,rfl,Ξ h⟩) a))
end
theorem zge{d e:Type}{P:d->e->Prop}{Z:List d->List e->Prop}(j:Z [] [])(k:∀{a b as bs},P a b->Z as bs->Z (a::as) (b::bs)){xs:List d}{ys:List e}(g:∀i:Nat,(∃x y,xs[i]?=Φ x/\ys[i]?=Φ y/\P x y)\/(xs[i]?=Ψ/\ys[i]?=Ψ)) :
  ∀c:List Nat,Z (c.filterMap (xs[·]?)) (c.filterMap (ys[·]?))
 | []=>j| i::c=>by have l:=zge j k g c;rw[List.filterMap_cons,List.filterMap_cons];rcases g i with⟨x,y,f,h,p⟩|⟨f,h⟩;rw[f,h];exact k p l;rw[f,h];exact l
theorem Vals.stp(r:Vals xs us)(k):Vals (R.stp xs k) (R.stp us k):=by unfold R.stp;rw[r.length];refine zge .nil (λp z=>.cons p z) (λi=>?_) _;cases e:xs[i]? with|none=>exact .inr ⟨rfl,Vals.none_of r e⟩| some x=>obtain⟨u,a,b⟩:=Vals.get r e;exact .inl ⟨x,u,rfl,a,b⟩
theorem RVs.stp{K}(r:RVs K ι H ds xs)(k):RVs K ι H (R.stp ds k) (R.stp xs k):=by have a:=r.length;unfold R.stp;rw[a];refine zge (by trivial) (λp z=>RVs.cons_iff.mpr ⟨p,z⟩) (λi=>?_) _;cases e:ds[i]? with| none=>refine .inr ⟨rfl,?_⟩;rw[List.getElem?_eq_none_iff]at e⊢;lia| some d=>obtain⟨v,b,c⟩:=r.get e;exact .inl ⟨d,v,rfl,b,c⟩
theorem zli(its)(k):slicePick its.toArray Ψ Ψ (Φ k)=(stp its k).toArray:=by unfold slicePick stp stpI;rw[show its.toArray.size=its.length from size_toArray];congr 1;rw[show(λ(x:Nat)=>its.toArray[x]?)=λx=>its[x]? from by funext x;simp];rfl
theorem Vals.app(r:Vals xs us)(q:Vals ys a):Vals (xs++ys) (us++a):=by induction r with|nil=>exact q|cons p _ b=>exact .cons p b
theorem Vals.rev(r:Vals xs us):Vals xs.reverse us.reverse:=by induction r with|nil=>exact .nil| cons p _ a=>rw[List.reverse_cons,List.reverse_cons];exact Vals.app a (.cons p .nil)
theorem RVs.rev{K}:∀{ds:List D}{xs:List V},RVs K ι H ds xs->RVs K ι H ds.reverse xs.reverse
 | [],[],r=>r| d::ds,x::xs,r=>by obtain⟨p,q⟩:=RVs.cons_iff.mp r;rw[List.reverse_cons,List.reverse_cons];exact RVs.append (RVs.rev q) (RVs.cons_iff.mpr ⟨p,by unfold RVs;trivial⟩)| [],_::_,r=>by have:=r.length;cases this
 |_::_,[],r=>by have:=r.length;cases this
section
variable{X:Cx}{e st:Expr}{te ts:TE}{pos p2:Pos}
noncomputable def tRev(K:Frag)(te ts:TE):TE:=λd H Q=>te d H λx f=>zo5 ts d f λo b=>(∃k a c,o=Φ k/\k≠0/\x=.ref a/\SqL K b a c/\(stp c k).length<=sizeLine/\∀p,b p=Ψ->Q (.ref p) (upd b p (.lst (stp c k))))\/
 (∃a c,o=Φ (-1)/\x=.ref a/\SqT K b a c/\∀p,b p=Ψ->Q (.ref p) (upd b p (.tup c.reverse)))
theorem zpZ(U:PE X e te)(Y:PE X st ts):PE X (.Subscript e (.Slice Ψ Ψ (Φ st) p2) pos) (tRev X.K te ts):=by
 intro d s g H Q I h;refine Subscript_ (thn (U d s g H _ I h) λv s1 z=>?_);obtain⟨x,C,I1,E,q1⟩:=z;refine wpAny_Slice (thn (zgt d s1 g C (λo n=>o=Ψ/\n=C) I1 ⟨rfl,rfl⟩) λp s2 z=>?_);obtain⟨l,G,I2,J,q2⟩:=z;obtain⟨rfl,rfl⟩:=q2;refine thn (zgt d s2 g G (λo n=>o=Ψ/\n=G) I2 ⟨rfl,rfl⟩) λt s3 z=>?_;obtain⟨u,H3,I3,L,q3⟩:=z;obtain⟨rfl,rfl⟩:=q3;refine thn (zjh Y d s3 g H3 _ I3 q1) λM m z=>?_;obtain⟨c,N,O,T,q4⟩:=z;rcases q4 with⟨k,a,xs,rfl,hk,rfl,w,hz,q⟩|⟨a,xs,rfl,rfl,w,q⟩
 case inr=>
  cases E;have f:Inv X d g N {m with heap:=m.heap.push {cls:=.type "slice",data:=.fields #[p,t,M]}}:=O.kept λb y q=>Ω _ q;obtain⟨A,r,i,B⟩:=f.tuple w;have j:=r.length;have el:p=.none:=by cases J;rfl
  have eu:t=.none:=by cases L;rfl
  subst el;subst eu;refine tail_any i.typeIs PyProof.Rows.slot_tuple_getitem.lookup ?_ (by with_unfolding_all rfl);refine zcQ i (Heap.IsSliceOf.new ..) T ?_ (by rw[size_toArray]<;>lia);refine⟨.ref _,_,f.laid (λb y q=>Ω _ q) (le_refl _) ?_,rfl,q _ (f.hok.fresh (le_refl _))⟩;exact⟨by rw[List.length_reverse];lia,_,Vals.rev r,IsTup.new _ _⟩
 cases E;have f:Inv X d g N {m with heap:=m.heap.push {cls:=.type "slice",data:=.fields #[p,t,M]}}:=O.kept λb y q=>Ω _ q;obtain⟨A,r,i,B⟩:=f.list w;have j:=r.length;refine tail_any i.isList.typeIs slot_list_getitem.lookup ?_ (by with_unfolding_all rfl);refine wpAny_getItem_list_slice i.isList (Heap.IsSliceOf.new ..) J L T (by simpa using hk) ?_ (by rw[size_toArray]<;>lia);rw[zli];refine⟨.ref _,_,f.laid (λb y q=>Ω _ q) (le_refl _) ?_,rfl,q _ (f.hok.fresh (le_refl _))⟩;exact⟨hz,_,0,Vals.stp r k,Ι _ rfl⟩
end
section
variable{X:Cx}{cf:CF}{pos p2:Pos}
theorem zpi(G:PE X a (tE X.K cf I))(J:PE X b (tE X.K cf L)):PE X (.Subscript a (.Slice Ψ Ψ (Φ b) p2) pos) (tE X.K cf (.slS I L)):=by
 refine PE.imp (zpZ G J) λσ H Qv z=>?_;obtain⟨δ,ι,S,Q,M,N,w,q⟩:=z;change W (Out.bind _ _) _ at w;simp only[zab] at w;refine tE.run M N w λd v O H1 S1 A n r B T=>?_;refine tE.run n r T λy u U H2 Y j hs2 f C c=>?_;cases d with
 |ref l=>
  cases y with
  |int k=>obtain rfl:u=.int k:=C;dsimp only at c;by_cases i:k=0;rw[if_pos i]at c;exact c.elim;rw[if_neg i]at c;cases e:Y.get l with|none=>rw[e]at c;exact c.elim| some o=>rw[e]at c;cases o with| lst ds=>have g:=B.ext j;obtain⟨s,h1,rfl⟩:=g;obtain⟨b',E,t,h,m⟩:=f.obj _ _ e;rw[h1]at E;cases E;obtain⟨hz,w3⟩:=zcd c;refine⟨k,rfl,.inl ⟨k,s,t,rfl,i,rfl,SqL.of h,?_,λp x=>q _ _ (Lf.up (A.trans j) (Lf.lst f x (m.stp k) w3))⟩⟩;rw[(m.stp k).length];exact hz|_=>exact c.elim
  |_=>exact c.elim
 |tup ds=>cases y with| int k=>obtain rfl:u=.int k:=C;dsimp only at c;by_cases i:k = -1;subst i;have g:=B.ext j;obtain⟨s,t,rfl,h,m⟩:=g;exact⟨-1,rfl,.inr ⟨s,t,rfl,rfl,SqT.of h,λp x=>q _ _ (Lf.up (A.trans j) (Lf.tup f x m.rev c))⟩⟩;rw[if_neg i]at c;exact c.elim|_=>exact c.elim
 |_=>exact c.elim
end
def LfS(K:Frag)(ι:List Addr)(H:Hp)(Q:Fl->R.St->Prop)(E:Ends):Prop:=∀f a b g,Ext ι H a b->RH K a b g->Q f g->(match f with|.nx e=>∀c,RS K a b e c->E.nx c b|.rt d=>∀v,RV K a b d v->E.rt v b)
def tS(K:Frag)(cf:CF)(cs:CS):TS:=λE c H=>∃b a S Q,RS K a H b c/\RH K a H S/\W (exS cf cs b S) Q/\LfS K a H Q E
theorem LfS.up{K}(h:LfS K ι H Q E)(x:Ext ι H a b):LfS K a b Q E:=λf g i c d e q=>h f g i c (x.trans d) e q
theorem PSs.imp{st}(h:PSs X st t)(i:∀E a H,t' E a H->t E a H):PSs X st t':=λb s a H E I q=>h b s a H E I (i E a H q)
section
variable{T:Tab}{cf:CF}{k:Nat}{N:List Str}{sc:Scope}{X:Cx}{pos p:Pos}{rest:List Stmt}
theorem zpc:PSs X [] (tS X.K cf .nil):=PSs.imp znG λE a H z=>by obtain⟨e,b,S,Q,c,d,w,l⟩:=z;exact l _ b H S (Ext.refl _ _) d w a c
theorem zpe(G:Gd T cf k N sc X)(g:N[i]?=Φ x)(f:zfG sc x=Γ)(h:PE X e (tE X.K cf j))(m:zbK e=Γ)(n:PSs X rest (tS X.K cf r)):
  PSs X (.Assign [.Name x p] e pos::rest) (tS X.K cf (.asg i j r)):=by
 refine PSs.imp (zaX (zmk (by rw[G.nm];exact G.nd) (by rw[G.nm];exact g) (G.lc f).1 h (zgd m _ _ _) (G.lc f).2) n) λE B H z=>?_;obtain⟨o,C,S,Q,q,s,w,l⟩:=z;change W (Out.bind _ _) _ at w;simp only[zab] at w;exact tE.run q s w λd v a I t u b c y A=>⟨o.set i (Φ d),a,t,Q,b.set y i,c,A,l.up u⟩
theorem zm6(G:Gd T cf k N sc X)(C:N[i]?=Φ x)(a:∃t,PS X (.Assign [.Name x p] e pos) (tAsg t (zke i))/\∀σ H g,tE X.K cf h σ H g->t σ H g)(j:PSs X rest (tS X.K cf r)):
  PSs X (.Assign [.Name x p] e pos::rest) (tS X.K cf (.asg i h r)):=by
 obtain⟨t,m,n⟩:=a;refine PSs.imp (zaX m j) λE σ H z=>?_;obtain⟨o,I,S,Q,q,s,w,l⟩:=z;change W (Out.bind _ _) _ at w;simp only[zab] at w;exact n _ _ _ (tE.run q s w λd v b J u y c f A B=>⟨o.set i (Φ d),b,u,Q,c.set A i,f,B,l.up y⟩)
theorem zm3(f:PE X e (tE X.K cf g))(h:zbK e=Γ)(i:PSs X rest (tS X.K cf r)):PSs X (.Expr e pos::rest) (tS X.K cf (.expr g r)):=by refine PSs.imp (zaX (znI f (zgd h _ _ _)) i) λE t H z=>?_;obtain⟨j,u,S,Q,m,n,w,l⟩:=z;change W (Out.bind _ _) _ at w;simp only[zab] at w;exact tE.run m n w λd v a x o q b c y s=>⟨j,a,o,Q,b,c,s,l.up q⟩
theorem zpb(b:PE X e (tE X.K cf c))(f:PSs X rest (tS X.K cf r)):PSs X (.Return (Φ e) pos::rest) (tS X.K cf (.ret c r)):=by refine PSs.imp (zaX (zpQ b) f) λE q H z=>?_;obtain⟨s,t,S,Q,g,h,w,l⟩:=z;change W (Out.bind _ _) _ at w;simp only[zab] at w;exact tE.run g h w λd v i u x j m a n o=>(l _ _ _ _ j a o v n)
theorem zru(A:PT X c (tT X.K cf B))(C:PSs X a (tS X.K cf G))(I:PSs X b (tS X.K cf J))(L:PSs X rest (tS X.K cf r)):PSs X (.If c a b pos::rest) (tS X.K cf (.ifS B G J r)):=by
 refine PSs.imp (zaX (zrH A C I) L) λE σ H k=>?_;obtain⟨s,ι,S,Q,M,O,w,l⟩:=k;change W (Out.bind _ _) _ at w;simp only[zab] at w;refine tT.run M O w λz e U t u h i x=>?_;have fin:LfS X.K e U (λf m=>W (match f with|.nx g=>exS cf r g m|.rt d=>.ok (.rt d) m) Q) {E with nx:=tS X.K cf r E}:=by intro f n H2 m y j q;cases f with|nx g=>exact λY o=>⟨g,n,m,Q,o,j,q,(l.up u).up y⟩|rt d=>exact λv rv=>(l.up u) _ _ _ _ y j q v rv
 cases z with|true=>exact⟨s,e,t,_,h,i,x,fin⟩|false=>exact⟨s,e,t,_,h,i,x,fin⟩
def FInv(K:Frag)(cf:CF)(g:List Nat)(b:CS)(m:Fl->R.St->Prop)(l:List D)(a:List Nat)(h:List Addr)(n:Hp)(S1:R.St)(i:Nat)(j:L2.St)(H':Hp):Prop:=i<=l.length/\∃c d e,RS K d H' c j/\Ltr K h n S1 a d H' e/\e.lk=a++S1.lk/\S1.len<=e.len/\W (zbf g (exS cf b) (l.drop i) c e) λf o=>m f {o with lk:=S1.lk}
theorem zpd(G:Gd T cf k N sc X)(hi:PI X tg g (tI X.K cf it))(hg:PG X tg (tG X.K Y))(hb:PSs X u (tS X.K cf cb))(A:zaQ g=Γ)(hr:PSs X rest (tS X.K cf r)):
  PSs X (.For tg g u [] pos::rest) (tS X.K cf (.forS Y it cb r)):=by
 have hp:PassesOwn (model X.prog X.w) X.A X.env X.xe:=by rw[G.xe];exact PassesOwn.never
 refine PSs.imp (zaX (zpR hp G.calm hi hg hb (zgE A X.env)) hr) λE σ H y=>?_;obtain⟨δ,ι,S,Q,hs,hh,w,l⟩:=y;change W (Out.bind _ _) _ at w;simp only[zab] at w;refine⟨δ,ι,S,_,hs,hh,w,λJ H1 y=>?_⟩;obtain⟨ds,b,j,n,x1,hh1,B,wk⟩:=y;dsimp only at B;unfold zbg at B;rw[zab]at B;simp only[W_ok]at B;refine⟨λi m C I=>m=ds.length-i/\FInv X.K cf Y cb (λf S2=>W (match f with|.nx c=>exS cf r c S2|.rt d=>.ok (.rt d) S2) Q) ds b j H1 n i C I,⟨_,rfl,zero_le _,δ,j,{n with lk:=b++n.lk},hs.ext x1,⟨Ext.refl _ _,hh1.lk _,λl _=>rfl⟩,rfl,le_refl _,B⟩,?_⟩;rintro i m C I ⟨rfl,hle,c,a,t,L,o,M,O,e⟩;have l1:=l.up (x1.trans o.ext);rcases Nat.lt_or_eq_of_le hle with q|rfl;refine .inr ⟨wk.go i a I t o q,FInv X.K cf Y cb _ ds b j H1 n (i+1),λσ2 H2 h=>⟨_,by omega,rfl,h⟩,λx H2 hy=>?_⟩;obtain⟨x2,hh2,d,hd,rd⟩:=wk.yld i a I t x H2 o q hy;rw[zfS hd]at e;simp only[zbf]at e;cases ea:asgG Y d c with|none=>rw[ea]at e;exact e.elim| some s=>rw[ea]at e;dsimp only at e;rw[zab]at e;refine⟨c,a,d,s,L.ext x2,rd,ea,λσ2 hs3=>⟨s,a,t,_,hs3,hh2,(frS G.tab.frm cb s t).w e,?_⟩⟩;rintro f ι3 H3 S3 x3 U ⟨w3,f3⟩;have k1:S3.lk=b++n.lk:=f3.lk.trans M;have k3:∀l∈b,S3.get l=n.get l:=λl hl=>(f3.same l (by rw[M];exact mem_append_left _ hl) (lt_of_lt_of_le (wk.lks l hl) O)).trans (o.lck l hl);cases f with|nx δ3=>exact λσ3 hs4=>⟨q,δ3,ι3,S3,hs4,⟨(o.ext.trans x2).trans x3,U,k3⟩,k1,le_trans O f3.lens,w3⟩|rt z=>exact λv rv=>l1 _ _ _ _ (x2.trans x3) (U.lk _) w3 v rv
 refine .inl ⟨wk.stop _ a I t o (le_refl _),?_⟩;rw[List.drop_length]at e;simp only[zbf,W_ok]at e;exact⟨c,a,{t with lk:=n.lk},Q,L,o.rh.lk _,e,l1⟩
def zst(H:Hp)(a:Addr)(y v:V)(H':Hp):Prop:=DPut H a y v H'\/(∃b k c,H a=Φ (.ext (TriO a b))/\TriK H b/\y=.ref c/\Key3 H k c/\b.length<sizeLine/\H'=upd H a (.ext (TriO a (put3 b k c v))))\/∃d k j,H a=Φ (.lst d)/\y=.int k/\L2.ixN d.length k=Φ j/\H'=upd H a (.lst (d.set j v))
def zpE(d e f:TE):TS:=λD b H=>f b H λv g=>d b g λx h=>e b h λy i=>∃a c,x=.ref a/\zst i a y v c/\D.nx b c
theorem zlg(hu:X.A.units+5<cLine)(ho:PE X o td)(hi:PE X i ty)(hv:PE X value tv)(hs:swapsWith value (Φ (.Subscript o i pos')) pos.line X.env=pure Δ):
  PS X (.Assign [.Subscript o i pos'] value pos) (zpE td ty tv):=by
 intro pins s σ H D I h;refine wpAny_Assign_Subscript (thn (hv pins s σ H _ I h) λr s1 z=>eY z λv H1 I1 rv q1=>thn (ho pins s1 σ H1 _ I1 q1) λu s2 z=>eY z λx H2 I2 rx q2=>thn (hi pins s2 σ H2 _ I2 q2) λiv s3 q'=>?_) hs;obtain⟨y,H3,I3,ry,a,H4,ex,g,q3⟩:=q';subst ex;obtain rfl:u=Λ.ref a:=rx;rcases g with g|⟨kxs,k,c,e,tk,rfl,ek,hl,rfl⟩|⟨xs,k,j,e,ey,ej,rfl⟩;exact zkr (by lia) I3 g ry rv λs4 I4=>⟨σ,H4,I4,q3⟩;obtain rfl:iv=Λ.ref c:=ry;exact zin hu I3 e tk ek hl rv λs4 I4=>⟨σ,_,I4,q3⟩;exact Ϥ (zkT pins s3 σ H3 (.ref a) y v (.ref a) iv r (λH'=>D.nx σ H') I3 rfl ry rv ⟨a,xs,k,j,rfl,ey,e,ej,q3⟩) (λ_ s4 p=>(by obtain⟨H',I4,q⟩:=p;exact ⟨σ,H',I4,q⟩)) λ_ _ z=>z
theorem zkQ(G:Gd T cf k N sc X)(m:PE X a (tE X.K cf ca))(u:PE X b (tE X.K cf cb))(he:PE X e (tE X.K cf ce))(hc:zbK e=Γ)(hr:PSs X rest (tS X.K cf r)):
  PSs X (.Assign [.Subscript a b p] e pos::rest) (tS X.K cf (.setIx ca cb ce r)):=by
 refine PSs.imp (zaX (zlg (by have:=G.hu;lia) m u he (zgd hc _ _ _)) hr) λE σ H z=>?_;obtain⟨Y,ι,S,Q,hs,hh,w,l⟩:=z;change W (Out.bind _ _) _ at w;simp only[zab] at w;refine tE.run hs hh w λd v ι1 H1 S1 x1 B C r1 w1=>?_;refine tE.run B C w1 λx vx ι2 H2 S2 A I J r2 w2=>?_;refine tE.run I J w2 λy vy n H3 S3 o q g r3 s=>?_;cases f:dPut S3 x y d with
 |none=>rw[f]at s;exact s.elim| some S4=>
  rw[f]at s;unfold dPut at f;cases x with
  |ref i=>
   obtain⟨p,t,rfl⟩:=r2.ext o;dsimp only at f;cases e:S3.get i with
   |none=>rw[e]at f;exact nS f
   |some ob=>
    rw[e]at f;obtain⟨b,h2,h3⟩:=g.obj _ _ e;rw[t]at h2;cases h2;cases ob with
    |d3 kvs=>
     obtain⟨nd,ws,m,L⟩:=h3;dsimp only at f;cases M:key3 y with
     |none=>rw[M]at f;exact nS f
     |some k=>rw[M]at f;dsimp only[bind_some]at f;split at f;rename_i c;obtain⟨b,rfl,u⟩:=zgC r3 M;have O:=r1.ext (A.trans o);have h:=Ext.wr g e t (.ext (TriO p (put3 ws k b v)));refine⟨p,_,rfl,.inr <| .inl ⟨ws,k,b,m,L.triK,rfl,u,by rw[L.length,ϔ];exact c,rfl⟩,Y,n,S4,Q,q.ext h,g.wr e t f ⟨zgs nd,_,zao,?_⟩,s,l.up (((x1.trans A).trans o).trans h)⟩;exact(L.put O u).up h.pre h.kp;exact nS f
    |lst ds=>
     obtain⟨xs,m,rx⟩:=h3;dsimp only at f;cases y with
     |int k=>
      obtain rfl:vy=.int k:=r3;dsimp only[zeV,bind_some]at f;cases U:R.ixN ds.length k with
      |none=>rw[U]at f;exact nS f
      |some j=>rw[U,bind_some]at f;have O:=r1.ext (A.trans o);have h:=Ext.wr g e t (.lst (xs.set j v));refine⟨p,_,rfl,.inr <| .inr ⟨xs,k,j,m,rfl,by rw[rx.length];exact U,rfl⟩,Y,n,S4,Q,q.ext h,g.wr e t f ⟨_,zao,?_⟩,s,l.up (((x1.trans A).trans o).trans h)⟩;exact(RVs.set O j rx).up h.pre h.kp
     |_=>exact nS f
    |_=>exact nS f
  |_=>exact nS f
theorem zkP(e)(l)(env):swapsWith e (Φ (.Attribute o f p)) l env=pure Δ:=by cases e<;>rfl
theorem zm2(G:Gd T cf k N sc X)(A:T.flds.contains f=Γ)(U:PE X a (tE X.K cf Y))(he:PE X e (tE X.K cf ce))(hr:PSs X rest (tS X.K cf r)):
  PSs X (.Assign [.Attribute a f p] e pos::rest) (tS X.K cf (.setF Y f ce r)):=by
 refine PSs.imp (zaX (zpS U he (zkP _ _ _)) hr) λE σ H z=>?_;obtain⟨δ,ι,S,Q,hs,hh,w,l⟩:=z;change W (Out.bind _ _) _ at w;simp only[zab] at w;refine tE.run hs hh w λd v ι1 H1 S1 x1 o q r1 w1=>?_;refine tE.run o q w1 λx vx s H2 B I t h r2 m=>?_;cases g:zbF B x f d with
 |none=>rw[g]at m;exact m.elim| some S3=>
  rw[g]at m;unfold zbF at g;cases x with
  |ref i=>
   obtain⟨b,u,rfl⟩:=r2;dsimp only at g;cases j:B.get i with
   |none=>rw[j]at g;exact nS g
   |some ob=>
    rw[j]at g;cases ob with
    |ins c fs=>obtain⟨b',J,C,y,L,M,hb,O⟩:=h.obj _ _ j;rw[u]at J;cases J;dsimp only at g;split at g;rename_i c2;obtain⟨_,_,cl,_,na⟩:=G.clsAt (.inl (ne_of A)) M;have rv:=r1.ext I;have n:=Ext.wr h j u (.ins C y (putF f v L));refine⟨b,C,y,L,rfl,hb,cl,na f A,by rw[O.length];exact c2,δ,s,S3,Q,t.ext n,h.wr j u g ⟨C,y,_,M,zao,(O.put f rv).up n.pre n.kp⟩,m,l.up ((x1.trans I).trans n)⟩;exact nS g
    |_=>exact nS g
  |_=>exact nS g
theorem zm5(G:Gd T cf k N sc X)(hn:zcc sc N is es=Γ)(h2:2<=is.length)(he:PE X e (tE X.K cf ce))(hx:(∃x q,e=.Name x q)\/∃f as ks q,e=.Call f as ks q)(hr:PSs X rest (tS X.K cf r)):
  PSs X (.Assign [.Tuple es j p] e pos::rest) (tS X.K cf (.asgT is ce r)):=by
 have hs:swapsWithSole [.Tuple es j p] e pos.line X.env=pure Δ:=by rcases hx with⟨x,q,rfl⟩|⟨f,as,ks,q,rfl⟩<;>rfl
 have hw:swappedStores [.Tuple es j p] e X.env=pure Ψ:=by rcases hx with⟨x,q,rfl⟩|⟨f,as,ks,q,rfl⟩<;>rfl
 refine PSs.imp (zaX (zpT he (zmd G hn h2) hs hw) hr) λE σ H z=>?_;obtain⟨δ,ι,S,Q,hs,hh,w,l⟩:=z;change W (Out.bind _ _) _ at w;simp only[zab] at w;refine tE.run hs hh w λd v ι1 H1 S1 x1 hs1 hh1 r1 w1=>?_;obtain⟨δ2,ea,w2⟩:=zau w1;exact⟨δ,ι1,d,δ2,hs1,r1,ea,λσ' hs'=>⟨δ2,ι1,S1,Q,hs',hh1,w2,l.up x1⟩⟩
end
noncomputable def zod:CL->Bool|.comp ..=>Γ|_=>Δ
noncomputable def isR1:CL->Bool|.rng1 _=>Γ|_=>Δ
noncomputable def zig:CL->Bool|.rng1 _=>Γ|.rng2 _ _=>Γ|.enum _=>Γ|_=>Δ
noncomputable def zjX:CL->Bool|.enum _=>Γ|_=>Δ
set_option backward.match.sparseCases false
noncomputable def zjY:Expr->Bool|.Tuple _ _ _=>Γ|_=>Δ
noncomputable def zbD:Expr->List Str
 |.Name x _=>[x]|.Tuple a _ _=>a.filterMap λ|.Name x _=>Φ x|_=>Ψ
 |_=>[]
set_option backward.match.sparseCases true
noncomputable def zoB(a scope:Scope)(N:List Str)(b:List Nat):Bool:=
 decide (scope.kind=.function)&&scope.names.all (λy=>decide (y.2≠.cell))&&scope.names.all (λy=>decide (y.2≠.local)||decide (scope.names.lookup y.1=Φ .local))
  && scope.names.all (λy=>decide (y.2≠.free)||decide (a.names.lookup y.1=Φ .cell)||decide (a.names.lookup y.1=Φ .free))&&b.all (λj=>decide (scope.names.lookup (N.getD j "")=Φ .free)&&decide (j<N.length))
noncomputable def nmB(x:Str):Bool:=!(x==("__debug__":Str))&&!(x==("__classdict__":Str))&&!(x==("__name__":Str))
noncomputable def tyB(t:String)(y:Str):Bool:=(t=="bool"&&y==("bool":Str))||(t=="int"&&y==("int":Str))||(t=="str"&&y==("str":Str))||(t=="list"&&y==("list":Str))||(t=="tuple"&&y==("tuple":Str))||(t=="dict"&&y==("dict":Str))
noncomputable def biB:Bi->Str->Nat->Bool
 |.len,x,n=>x==("len":Str)&&n==1|.abs,x,n=>x==("abs":Str)&&n==1|.max2,x,n=>x==("max":Str)&&n==2|.min2,x,n=>x==("min":Str)&&n==2|.isin _,_,_=>Δ
set_option backward.match.sparseCases false
noncomputable def zby:Expr->Option Str|.Name x _=>Φ x|_=>Ψ
noncomputable def zdq:Expr->Option Const|.Constant c _ _=>Φ c|_=>Ψ
noncomputable def zjb:Expr->Option (Expr×Operator×Expr)|.BinOp l o r _=>Φ (l,o,r)|_=>Ψ
noncomputable def rdUn:Expr->Option (UnaryOp×Expr)|.UnaryOp o x _=>Φ (o,x)|_=>Ψ
noncomputable def zfl:Expr->Option (Expr×List CmpOp×List Expr)|.Compare l os a _=>Φ (l,os,a)|_=>Ψ
noncomputable def zcU:Expr->Option (BoolOp×List Expr×Pos)|.BoolOp o a p=>Φ (o,a,p)|_=>Ψ
noncomputable def rdIf:Expr->Option (Expr×Expr×Expr)|.IfExp t x y _=>Φ (t,x,y)|_=>Ψ
noncomputable def zgi:Expr->Option (List Expr)|.Tuple a _ _=>Φ a|_=>Ψ
noncomputable def zfk:Expr->Option (List Expr)|.List a _=>Φ a|_=>Ψ
noncomputable def zgj:Expr->Option (Expr×Expr)|.Dict [Φ k] [v] _=>Φ (k,v)|_=>Ψ
noncomputable def zdp:Expr->Bool|.Dict a b _=>a.isEmpty&&b.isEmpty|_=>Δ
noncomputable def zfj:Expr->Option (Expr×Expr)|.Subscript x i _=>Φ (x,i)|_=>Ψ
set_option backward.match.sparseCases true
noncomputable def znt:Expr->Option Expr|.Slice Ψ Ψ (Φ s) _=>Φ s|_=>Ψ
noncomputable def rdSl:Expr->Option (Option Expr×Option Expr)|.Slice l u st _=>(match st with|none=>Φ (l,u)|some _=>Ψ)|_=>Ψ
set_option backward.match.sparseCases false
noncomputable def zb9:Expr->Option (Expr×List Expr×List Keyword×Pos)|.Call f a b p=>Φ (f,a,b,p)|_=>Ψ
noncomputable def zca:Expr->Option (Expr×Str×Pos)|.Attribute o x p=>Φ (o,x,p)|_=>Ψ
noncomputable def rdLC:Expr->Option (Expr×List Comprehension×Scope×Pos)|.ListComp e a b p=>Φ (e,a,b,p)|_=>Ψ
set_option backward.match.sparseCases true
section
variable{e l r x y i f:Expr}{xs rs as:List Expr}{ks:List Keyword}{p:Pos}
theorem zaS(h:zby e=Φ n):∃p,e=.Name n p:=by cases e<;>first|(cases h;exact⟨_,rfl⟩)|exact nS h
theorem zgl(h:zdq e=Φ c):∃j p,e=.Constant c j p:=by cases e<;>first|(cases h;exact⟨_,_,rfl⟩)|exact nS h
theorem zja(h:zjb e=Φ (l,o,r)):∃p,e=.BinOp l o r p:=by cases e<;>first|(cases h;exact⟨_,rfl⟩)|exact nS h
theorem zeG(h:rdUn e=Φ (o,x)):∃p,e=.UnaryOp o x p:=by cases e<;>first|(cases h;exact⟨_,rfl⟩)|exact nS h
theorem zcv{os}(h:zfl e=Φ (l,os,rs)):∃p,e=.Compare l os rs p:=by cases e<;>first|(cases h;exact⟨_,rfl⟩)|exact nS h
theorem zbW(h:zcU e=Φ (o,xs,p)):e=.BoolOp o xs p:=by cases e<;>first|(cases h;rfl)|exact nS h
theorem zlb(h:rdIf e=Φ (l,x,y)):∃p,e=.IfExp l x y p:=by cases e<;>first|(cases h;exact⟨_,rfl⟩)|exact nS h
theorem zdm(h:zgi e=Φ xs):∃j p,e=.Tuple xs j p:=by cases e<;>first|(cases h;exact⟨_,_,rfl⟩)|exact nS h
theorem zhP(h:zfk e=Φ xs):∃p,e=.List xs p:=by cases e<;>first|(cases h;exact⟨_,rfl⟩)|exact nS h
theorem zgk(h:zdp e=Γ):∃p,e=.Dict [] [] p:=by
 cases e with
 |Dict ks a p=>
  cases ks with
  |cons _ _=>exact nB h
  |nil=>
   cases a with
   |cons _ _=>exact nB h
   |nil=>exact⟨_,rfl⟩
 |_=>exact nB h
theorem zcu(h:zfj e=Φ (x,i)):∃p,e=.Subscript x i p:=by cases e<;>first|(cases h;exact⟨_,rfl⟩)|exact nS h
theorem zi5(h:znt e=Φ b):∃p,e=.Slice Ψ Ψ (Φ b) p:=by unfold znt at h;split at h<;>first|(cases h;exact⟨_,rfl⟩)|exact nS h
theorem zla(h:rdSl e=Φ (a,b)):∃p,e=.Slice a b Ψ p:=by
 cases e with
 |Slice l u st p=>cases st with|none=>cases h;exact⟨_,rfl⟩|some _=>exact nS h
 |_=>exact nS h
theorem zcK(h:zb9 e=Φ (f,as,ks,p)):e=.Call f as ks p:=by cases e<;>first|(cases h;rfl)|exact nS h
theorem zbX(h:zca e=Φ (x,n,p)):e=.Attribute x n p:=by cases e<;>first|(cases h;rfl)|exact nS h
theorem zg4(h:rdLC e=Φ (x,gs,a,p)):e=.ListComp x gs a p:=by cases e<;>first|(cases h;rfl)|exact nS h
end
theorem zaa{a:Type}{o:Option a}{f:a->Bool}(h:o.any f=Γ):∃x,o=Φ x/\f x=Γ:=by
 cases o with
 |none=>exact nB h
 |some x=>exact⟨x,rfl,h⟩
noncomputable def one{a:Type}:List a->Option a | [x]=>Φ x|_=>Ψ
theorem zbk(h:one xs=Φ x):xs=[x]:=by match xs,h with| [y],h=>cases h;rfl
noncomputable def two{a:Type}:List a->Option (a×a) | [x,y]=>Φ (x,y)|_=>Ψ
theorem two_inv(h:two xs=Φ (x,y)):xs=[x,y]:=by match xs,h with| [a,b],h=>cases h;rfl
noncomputable def za1(e:Expr):Option (Str×List Expr):=(zb9 e).bind λq=>if q.2.2.1.isEmpty then(zby q.1).map λx=>(x,q.2.1) else Ψ
theorem zaT(h:za1 e=Φ (x,as)):∃a p,e=.Call (.Name x a) as [] p:=by
 unfold za1 at h;cases q:zb9 e with
 |none=>rw[q]at h;exact nS h
 |some z=>
  obtain⟨f,g,d,p⟩:=z;rw[q]at h;dsimp only[bind_some]at h;split at h;rename_i c;cases b:zby f with
  |none=>rw[b]at h;exact nS h
  |some y=>
   obtain⟨a,rfl⟩:=zaS b;cases d with
   |cons _ _=>exact nB c
   |nil=>cases h;exact⟨a,p,zcK q⟩
  exact nS h
noncomputable def zaz(e:Expr):Option (Str×Expr):=(za1 e).bind λq=>(one q.2).map λa=>(q.1,a)
theorem zaq(h:zaz e=Φ (x,a)):∃d p,e=.Call (.Name x d) [a] [] p:=by
 unfold zaz at h;cases q:za1 e with
 |none=>rw[q]at h;exact nS h
 |some z=>
  obtain⟨y,f⟩:=z;rw[q]at h;dsimp only[bind_some]at h;cases c:one f with
  |none=>rw[c]at h;exact nS h
  |some b=>rw[c]at h;cases h;rw[zbk c]at q;exact zaT q
noncomputable def zdo(e:Expr):Option (Expr×Str×Pos×Expr×Pos):=(zb9 e).bind λq=>if q.2.2.1.isEmpty then(zca q.1).bind λa=>(one q.2.1).map λy=>(a.1,a.2.1,a.2.2,y,q.2.2.2) else Ψ
theorem zec(h:zdo e=Φ (o,x,i,a,j)):e=.Call (.Attribute o x i) [a] [] j:=by
 unfold zdo at h;cases q:zb9 e with
 |none=>rw[q]at h;exact nS h
 |some z=>
  obtain⟨f,k,l,p⟩:=z;rw[q]at h;dsimp only[bind_some]at h;split at h;rename_i c;cases d:zca f with
  |none=>rw[d]at h;exact nS h
  |some y=>
   rw[d]at h;cases g:one k with
   |none=>rw[g]at h;exact nS h
   |some b=>
    rw[g]at h;cases h;cases l with
    |cons _ _=>exact nB c
    |nil=>rw[zcK q,zbX d,zbk g]
  exact nS h
noncomputable def zch(e:Expr):Option (Expr×Str×Pos×List Expr×Pos):=(zb9 e).bind λq=>if q.2.2.1.isEmpty then(zca q.1).map λa=>(a.1,a.2.1,a.2.2,q.2.1,q.2.2.2) else Ψ
theorem zdn(h:zch e=Φ (o,x,b,as,d)):e=.Call (.Attribute o x b) as [] d:=by
 unfold zch at h;cases q:zb9 e with
 |none=>rw[q]at h;exact nS h
 |some z=>
  obtain⟨f,i,g,p⟩:=z;rw[q]at h;dsimp only[bind_some]at h;split at h;rename_i c;cases a:zca f with
  |none=>rw[a]at h;exact nS h
  |some y=>
   rw[a]at h;cases h;cases g with
   |cons _ _=>exact nB c
   |nil=>rw[zcK q,zbX a]
  exact nS h
noncomputable def fnB(T:Tab)(f j:Nat)(x:Str):Bool:=match T.fns[f]? with|some (y,_,a)=>(y==x)&&decide (j<=a)|none=>Δ
noncomputable def conG(T:Tab)(d:D)(x:Str):Bool:=match T.cons.lookup x with|some a=>eqC a d|none=>Δ
set_option backward.match.sparseCases false in
noncomputable def zj0:CE->Bool|.con _=>Γ|_=>Δ
noncomputable def zof:CL->Bool|.comp ..=>Γ|_=>Δ
set_option backward.match.sparseCases false in
noncomputable def zjZ:CE->Bool|.tst (.con (.bl Γ))=>Γ|_=>Δ
noncomputable def znU:CEs->Bool|.cons _ .nil=>Γ|_=>Δ
noncomputable def znX:CEs->Bool|.nil=>Γ|_=>Δ
noncomputable def mtN:Mt->Str->Bool
 |.append,x=>x==("append":Str)|.popAt,x=>x==("pop":Str)|.count,x=>x==("count":Str)
noncomputable def zr4:Bi->Option String|.isin t=>Φ t|_=>Ψ
noncomputable def tgB(a:Scope)(N:List Str)(g:List Nat)(b:Expr):Bool:=match zby b with|some x=>(match one g with|some i=>(N[i]?==Φ x)&&zfG a x|none=>Δ)|none=>(zgi b).any λc=>decide (2<=g.length)&&zcc a N g c
mutual
noncomputable def chkE(T:Tab)(e₀:CE)(N:List Str)(sc:Scope)(e:Expr):Bool:=match e₀ with
 |.loc i=>(zby e).any λx=>(N[i]?==Φ x)&&zlH sc x&&nmB x|.con d=>(zdq e).any (λc=>conB d c)||(zby e).any λx=>isGl sc x&&conG T d x&&nmB x
 |.tst _=>Δ|.bin op a b=>(zjb e).any λq=>decide (q.2.1=op)&&chkE T a N sc q.1&&chkE T b N sc q.2.2|.neg a=>(rdUn e).any λq=>decide (q.1=.USub)&&chkE T a N sc q.2|.nt a=>(rdUn e).any λq=>decide (q.1=.Not)&&chkE T a N sc q.2|.cmp op a b=>(zfl e).any λq=>decide (q.2.1=[op])&&(one q.2.2).any λr=>zaQ r&&chkE T a N sc q.1&&chkE T b N sc r|.cmp2 op op' a b c=>(zfl e).any λq=>decide (q.2.1=[op,op'])&&(two q.2.2).any λr=>zaQ r.1&&zaQ r.2&&chkE T a N sc q.1&&chkE T b N sc r.1&&chkE T c N sc r.2
 |.and a b=>(zcU e).any λq=>decide (q.1=.And)&&(match q.2.1 with
  |x::y::rest=>chkE T a N sc x&&(if rest.isEmpty then chkE T b N sc y else chkE T b N sc (.BoolOp .And (y::rest) q.2.2))|_=>Δ)
 |.or a b=>(zcU e).any λq=>decide (q.1=.Or)&&(match q.2.1 with
  |x::y::rest=>chkE T a N sc x&&(if rest.isEmpty then chkE T b N sc y else chkE T b N sc (.BoolOp .Or (y::rest) q.2.2))|_=>Δ)
 |.ite c a b=>(rdIf e).any λq=>chkT T c N sc q.1&&chkE T a N sc q.2.1&&chkE T b N sc q.2.2|.tup es=>(zgi e).any λxs=>zbO T es N sc xs|.lst es=>(zfk e).any λxs=>zbO T es N sc xs|.dnew3=>zdp e|.dget3 a b c=>(zch e).any λq=>(two q.2.2.2.1).any λz=>(q.2.1==("get":Str))&&zai z.1&&zai z.2&&zbz q.1&&(q.2.2.1.endLine==q.2.2.2.2.line)&&chkE T a N sc q.1&&chkE T b N sc z.1&&chkE T c N sc z.2|.fld a f=>(zca e).any λq=>decide (q.2.1=f)&&zbz q.1&&T.flds.contains f&&chkE T a N sc q.1|.mk c f x j es=>(za1 e).any λq=>decide (q.1=x)&&isGl sc x&&nmB x&&decide (T.cls[c]?=Φ x)&&T.inits.contains (c,f,j)&&(!q.2.isEmpty||znX es)&&zbO T es N sc q.2|.meth m tb o es=>(zch e).any λq=>decide (q.2.1=m)&&mtB T m tb&&zbz q.1&&(q.2.2.1.endLine==q.2.2.2.2.line)&&decide (q.2.2.2.1.length<29)&&(!q.2.2.2.1.isEmpty||znX es)&&chkE T o N sc q.1&&zbO T es N sc q.2.2.2.1|.ix a b=>(zfj e).any λq=>zeO q.2&&chkE T a N sc q.1&&chkE T b N sc q.2|.slS a b=>(zfj e).any λq=>(znt q.2).any λs=>chkE T a N sc q.1&&chkE T b N sc s
 |.sl a ml mh lo hi=>(zfj e).any λq=>(rdSl q.2).any λs=>chkE T a N sc q.1
  && (match s.1 with|none=>!ml&&zj0 lo|some e=>ml&&chkE T lo N sc e)
  && (match s.2 with|none=>!mh&&zj0 hi|some e=>mh&&chkE T hi N sc e)
 |.call f j es=>(za1 e).any λq=>isGl sc q.1&&nmB q.1&&fnB T f j q.1&&(!q.2.isEmpty||znX es)&&zbO T es N sc q.2
 |.bi b es=>(za1 e).any λq=>bltB T sc q.1&&nmB q.1&&(match zr4 b with
  |some t=>(two q.2).any λz=>(zby z.2).any λy=>(q.1==("isinstance":Str))&&tyB t y&&bltB T sc y&&nmB y&&znU es&&zbO T es N sc [z.1]|none=>biB b q.1 q.2.length&&!q.2.isEmpty&&zbO T es N sc q.2)
 |.mt m o es=>(zdo e).any λq=>mtN m q.2.1&&zbz q.1&&(q.2.2.1.endLine==q.2.2.2.2.line)&&znU es&&chkE T o N sc q.1&&zbO T es N sc [q.2.2.2.1]
 |.mkL l=>if zof l then(if(rdLC e).isSome then chkL T l N sc e else(zaz e).any λq=>(q.1==("list":Str))&&bltB T sc q.1&&zai q.2&&chkL T l N sc q.2)
  else(zaz e).any λq=>(q.1==("list":Str))&&bltB T sc q.1&&zai q.2&&(!(zig l)||isR1 l)&&chkL T l N sc q.2
 |.mkT l=>(zaz e).any λq=>(q.1==("tuple":Str))&&bltB T sc q.1&&zai q.2&&(!(zig l)||isR1 l)&&chkL T l N sc q.2|.all l=>(zaz e).any λq=>(q.1==("all":Str))&&bltB T sc q.1&&zai q.2&&!(zig l)&&chkL T l N sc q.2|.ext a l=>(zdo e).any λq=>(q.2.1==("extend":Str))&&zai q.2.2.2.1&&zbz q.1&&(q.2.2.1.endLine==q.2.2.2.2.line)&&zod l&&chkE T a N sc q.1&&chkL T l N sc q.2.2.2.1|.lenset l=>(zaz e).any λq=>(zaz q.2).any λz=>(q.1==("len":Str))&&bltB T sc q.1&&(z.1==("set":Str))&&bltB T sc z.1&&zai z.2&&!(zig l)&&chkL T l N sc z.2|.sset a=>(zaz e).any λq=>(zaz q.2).any λz=>(q.1==("sorted":Str))&&bltB T sc q.1&&(z.1==("set":Str))&&bltB T sc z.1&&zai z.2&&chkE T a N sc z.2|.ssetP a=>(zaz e).any λq=>(zaz q.2).any λz=>(q.1==("sorted":Str))&&bltB T sc q.1&&(z.1==("set":Str))&&bltB T sc z.1&&zai z.2&&chkE T a N sc z.2
noncomputable def zbO(T:Tab)(e₀:CEs)(N:List Str)(sc:Scope)(es:List Expr):Bool:=match e₀ with|.nil=>es.isEmpty|.cons a r=>(match es with | []=>Δ|e::es=>zai e&&chkE T a N sc e&&zbO T r N sc es)
noncomputable def chkT(T:Tab)(e₀:CE)(N:List Str)(sc:Scope)(e:Expr):Bool:=match e₀ with
 |.cmp op a b=>(zfl e).any λq=>decide (q.2.1=[op])&&(one q.2.2).any λr=>zaQ r&&chkE T a N sc q.1&&chkE T b N sc r|.cmp2 op op' a b c=>(zfl e).any λq=>decide (q.2.1=[op,op'])&&(two q.2.2).any λr=>zaQ r.1&&zaQ r.2&&chkE T a N sc q.1&&chkE T b N sc r.1&&chkE T c N sc r.2|.nt a=>(rdUn e).any λq=>decide (q.1=.Not)&&chkT T a N sc q.2
 |.and a b=>(zcU e).any λq=>decide (q.1=.And)&&(match q.2.1 with
  |x::y::rest=>chkT T a N sc x&&(if rest.isEmpty then chkT T b N sc y else chkT T b N sc (.BoolOp .And (y::rest) q.2.2))|_=>Δ)
 |.or a b=>(zcU e).any λq=>decide (q.1=.Or)&&(match q.2.1 with
  |x::y::rest=>chkT T a N sc x&&(if rest.isEmpty then chkT T b N sc y else chkT T b N sc (.BoolOp .Or (y::rest) q.2.2))|_=>Δ)
 |.tst a=>zg8 e&&chkE T a N sc e|_=>Δ
noncomputable def chkL(T:Tab):CL->List Str->Scope->Expr->Bool
 |.val a,N,sc,e=>zaQ e&&chkE T a N sc e|.rng1 a,N,sc,e=>(zaz e).any λq=>(q.1==("range":Str))&&bltB T sc q.1&&zai q.2&&chkE T a N sc q.2|.rng2 a b,N,sc,e=>(za1 e).any λq=>(two q.2).any λz=>(q.1==("range":Str))&&bltB T sc q.1&&zai z.1&&zai z.2&&chkE T a N sc z.1&&chkE T b N sc z.2|.enum a,N,sc,e=>(zaz e).any λq=>(q.1==("enumerate":Str))&&bltB T sc q.1&&zai q.2&&chkE T a N sc q.2
 |.comp nt js g it c e,N,sc,ex=>(rdLC ex).any λq=>(one q.2.1).any λz=>decide (z.is_async=0)&&zoB sc q.2.2.1 N js&&(zaQ z.iter&&(zjY z.target||!(zjX it)))&&chkL T it N sc z.iter&&decide ((zbD z.target).length=nt)&&decide ((capN N (zbD z.target) js).Nodup/\capN N (zbD z.target) js≠T.lam)
  && tgB q.2.2.1 (capN N (zbD z.target) js) g z.target
  && (if z.ifs.isEmpty then zjZ c else(one z.ifs).any λt=>chkT T c (capN N (zbD z.target) js) q.2.2.1 t)
  && chkE T e (capN N (zbD z.target) js) q.2.2.1 q.1
end
noncomputable def zhQ:Stmt->Option (Expr×Expr×Pos)|.Assign a v p=>(one a).map λt=>(t,v,p)|_=>Ψ
set_option backward.match.sparseCases false
noncomputable def zpI:Stmt->Option (Expr×List Stmt×List Stmt)|.If e a b _=>Φ (e,a,b)|_=>Ψ
noncomputable def znv:Stmt->Option (Expr×Expr×List Stmt)|.For c d b a _=>if a.isEmpty then Φ (c,d,b) else Ψ|_=>Ψ
set_option backward.match.sparseCases true
noncomputable def znu:Stmt->Option Expr|.Return v _=>v|_=>Ψ
set_option backward.match.sparseCases false in
noncomputable def zpJ:Stmt->Option Expr|.Expr v _=>Φ v|_=>Ψ
section
variable{s:Stmt}{e v tg it:Expr}{a b:List Stmt}{p:Pos}
theorem zcw(h:zhQ s=Φ (tg,v,p)):s=.Assign [tg] v p:=by
 cases s with
 |Assign c v p=>
  simp only[zhQ]at h;cases q:one c with
  |none=>rw[q]at h;exact nS h
  |some t=>rw[q]at h;cases h;rw[zbk q]
 |_=>exact nS h
theorem zi7(h:zpI s=Φ (e,a,b)):∃p,s=.If e a b p:=by cases s<;>first|(cases h;exact⟨_,rfl⟩)|exact nS h
theorem zi8(h:znv s=Φ (tg,it,b)):∃p,s=.For tg it b [] p:=by
 cases s with
 |For tg it b c p=>cases c with|nil=>cases h;exact⟨_,rfl⟩|cons _ _=>exact nS h
 |_=>exact nS h
theorem zi6(h:znu s=Φ e):∃p,s=.Return (Φ e) p:=by cases s with|Return v p=>simp only[znu]at h;subst h;exact⟨_,rfl⟩|_=>exact nS h
theorem zi9(h:zpJ s=Φ e):∃p,s=.Expr e p:=by cases s<;>first|(cases h;exact⟨_,rfl⟩)|exact nS h
end
noncomputable def chkS(T:Tab)(j:CS)(N:List Str)(h:Scope)(st:List Stmt):Bool:=match j with|.nil=>st.isEmpty|.stop=>Γ|.asg i e r=>(match st with | []=>Δ|s::d=>(zhQ s).any λq=>(zby q.1).any λx=>(N[i]?==Φ x)&&zfG h x&&chkE T e N h q.2.1&&chkS T r N h d)|.asgT g e r=>(match st with | []=>Δ|s::d=>(zhQ s).any λq=>(zgi q.1).any λk=>((zby q.2.1).isSome||(za1 q.2.1).isSome)&&decide (2<=g.length)&&zcc h N g k&&chkE T e N h q.2.1&&chkS T r N h d)|.setIx a b e r=>(match st with | []=>Δ|s::d=>(zhQ s).any λq=>(zfj q.1).any λz=>zbK q.2.1&&chkE T a N h z.1&&chkE T b N h z.2&&chkE T e N h q.2.1&&chkS T r N h d)|.setF a f e r=>(match st with | []=>Δ|s::d=>(zhQ s).any λq=>(zca q.1).any λz=>decide (z.2.1=f)&&T.flds.contains f&&chkE T a N h z.1&&chkE T e N h q.2.1&&chkS T r N h d)|.ifS c t u r=>(match st with | []=>Δ|s::d=>(zpI s).any λq=>chkT T c N h q.1&&chkS T t N h q.2.1&&chkS T u N h q.2.2&&chkS T r N h d)|.forS g l b r=>(match st with | []=>Δ|s::d=>(znv s).any λq=>zaQ q.2.1&&chkL T l N h q.2.1&&chkS T b N h q.2.2&&chkS T r N h d&&(tgB h N g q.1&&(zjY q.1||!(zjX l))))|.ret e r=>(match st with | []=>Δ|s::d=>(znu s).any λv=>chkE T e N h v&&chkS T r N h d)|.expr e r=>(match st with | []=>Δ|s::d=>(zpJ s).any λv=>zbK v&&chkE T e N h v&&chkS T r N h d)
end R
section
set_option maxHeartbeats 8000000
namespace R
open PySem PySem.Spec PyProof.Rows L2
variable[Mks]
section
variable{T:Tab}{cf:CF}{k:Nat}{N:List Str}{sc:Scope}{X:Cx}
theorem zbL(env)(x):∀{names:List (Str×NameKind)}{a:NameKind},names.lookup x=Φ a->a≠.free->(names.map (zb4 env)).lookup x=Φ a
 | [],_,h,_=>by simp at h| y::r,a,h,c=>by
  rw[ϋ];have d:=zdl env y;have b:=zdk env y;obtain⟨n,g⟩:=y;generalize j:zb4 env (n,g)=z at *;obtain⟨i,l⟩:=z;simp only at d b;subst d;rw[lookup_cons]at h⊢;cases f:x==i with
  |true=>rw[f]at h;have e:=Option.some.inj h;subst e;rcases b with b|⟨q,_⟩;rw[b];exact absurd q c
  |false=>rw[f]at h;exact zbL env x h c
theorem zhy(G:Gd T cf k N sc X)(h:zoB sc scope N b=Γ):CompOk X.env.scope scope X.N b:=by unfold zoB at h;simp only[Α,all_eq_true,decide_eq_true_eq,or_eq_true]at h;obtain⟨⟨⟨⟨c,d⟩,f⟩,g⟩,i⟩:=h;refine⟨c,d,λy a e=>?_,λy a e=>?_,λj l=>?_⟩;rcases f y a with z|z;exact absurd e z;exact z;rcases g y a with (z|z)|z;exact absurd e z;exact .inl (G.cell _ z);exact(G.free _ z).symm;rw[G.nm];exact i j l
theorem zkd(G:Gd T cf k N sc X)(ok:CompOk X.env.scope scope X.N b)(d:(capN N tgs b).Nodup/\capN N tgs b≠T.lam)(cl)(C)(f)(s)(H)(pn):
  Gd T cf k (capN N tgs b) scope (zay X (capN X.N tgs b) scope cl C f s H pn):=by
 have a:(zay X (capN X.N tgs b) scope cl C f s H pn).env.scope.names=scope.names.map (zb4 X.env):=zbt scope X.env;have c:∀x,scope.names.lookup x≠Φ .cell:=λx e=>ok.nocell _ (PySem.mem_of_lookup e) rfl;refine⟨by rw[<-G.nm],d.1,λx e=>?_,λx e=>absurd e (c x),λx e=>?_,λx e=>?_,.inr c,G.calm,rfl,G.room',G.tab,λz=>absurd z d.2⟩;rw[a];exact zbL _ _ e (by decide);rw[a];exact zbu _ _ _ e;rw[a];exact zbL _ _ e (by decide)
theorem zed(h:nmB x=Γ):(x==("__debug__":Str))=Δ/\(x==("__classdict__":Str))=Δ/\x≠("__name__":Str):=by unfold nmB at h;simp only[Α,not_eq_true']at h;exact⟨h.1.1,h.1.2,λe=>by rw[e]at h;simp at h⟩
theorem zoV(h:tyB t y=Γ):t∈["bool","int","str","list","tuple","dict"]/\bootBuiltins y=Φ (.type t):=by unfold tyB at h;simp only[or_eq_true,Α,beq_iff_eq]at h;rcases h with ((((⟨rfl,rfl⟩|⟨rfl,rfl⟩)|⟨rfl,rfl⟩)|⟨rfl,rfl⟩)|⟨rfl,rfl⟩)|⟨rfl,rfl⟩;exact⟨by simp,zoF⟩;exact⟨by simp,zq7⟩;exact⟨by simp,zq4⟩;exact⟨by simp,zgL⟩;exact⟨by simp,ze6⟩;exact⟨by simp,zoE⟩
theorem zqU(h:fnB T f j x=Γ):∃b a,T.fns[f]?=Φ (x,b,a)/\j<=a:=by
 unfold fnB at h;cases e:T.fns[f]? with
 |none=>rw[e]at h;exact nB h
 |some q=>obtain⟨y,b,a⟩:=q;rw[e]at h;simp only[Α,beq_iff_eq,decide_eq_true_eq]at h;obtain⟨rfl,c⟩:=h;exact⟨b,a,rfl,c⟩
theorem zaV:∀{b:CEs}{N:List Str}{sc:Scope}{es:List Expr},zbO T b N sc es=Γ->es.all zai=Γ
 |.nil,N,sc,es,h=>by simp only[zbO,isEmpty_iff]at h;subst h;rfl| .cons a r,N,sc,es,h=>by cases es with|nil=>simp[zbO]at h| cons e es=>simp only[zbO,Α]at h;simp[h.1.1,zaV h.2]
theorem zhz(h:znU es=Γ):∃a,es=.cons a .nil:=by
 cases es with
 |nil=>exact nB h
 |cons a r=>cases r with|nil=>exact⟨a,rfl⟩|cons _ _=>exact nB h
theorem zis(G:Gd T cf k N sc X)(h:biB b x n=Γ):∃id,za0 X (.builtin id) (rB X.K λS a=>R.bi S b a)/\bootBuiltins x=Φ (.builtin id):=by cases b with|len=>simp only[biB,Α,beq_iff_eq]at h;rw[h.1];exact⟨_,zqF,zmJ⟩|abs=>simp only[biB,Α,beq_iff_eq]at h;rw[h.1];exact⟨_,zrd,zq9⟩|max2=>simp only[biB,Α,beq_iff_eq]at h;rw[h.1];exact⟨_,zqp G.calm,zq6⟩|min2=>simp only[biB,Α,beq_iff_eq]at h;rw[h.1];exact⟨_,zqn G.calm,zq5⟩|isin t=>simp[biB]at h
def LOk(T:Tab)(cf:CF)(k:Nat)(cl:CL)(X:Cx)(e:Expr):Prop:=(zig cl=Δ->PE X e (tL X.K cf cl))/\(zod cl=Γ->PE X e (tLt X.K cf cl))/\(∀c,(zjY c||!(zjX cl))=Γ->PI X c e (tI X.K cf cl))/\
 ∀a,cl=.rng1 a->∃b d p,e=.Call (.Name "range" d) [b] [] p/\(Gl X "range"/\X.mg "range"=Ψ)/\PE X b (tE X.K cf a)/\zai b=Γ
def EsOk(cf:CF)(b:CEs)(X:Cx)(es:List Expr):Prop:=PA X es (tAs X.K cf b)/\∀a r e c,b=.cons a r->es=e::c->PE X e (tE X.K cf a)
theorem zmW(G:Gd T cf k N sc X)(h:tgB sc N g a=Γ):PG X a (tG X.K g):=by unfold tgB at h;split at h;rename_i x q;obtain⟨p,rfl⟩:=zaS q;split at h;rename_i i b;rw[zbk b];simp only[Α,beq_iff_eq]at h;exact znb G h.1 h.2;exact nB h;replace h:=zaa h;obtain⟨c,q,h⟩:=h;obtain⟨j,p,rfl⟩:=zdm q;simp only[Α,decide_eq_true_eq]at h;exact zmd G h.2 h.1
theorem zgS(h:zjZ c=Γ):PTs X [] (tT X.K cf c):=by
 have f:c=.tst (.con (.bl Γ)):=by
  cases c with
  |tst a=>
   cases a with
   |con d=>
    cases d with
    |bl b=>cases b with|true=>rfl|false=>exact nB h
    |_=>exact nB h
   |_=>exact nB h
  |_=>exact nB h
 subst f;intro e g i j l I q;refine znE e g i j l I ?_;obtain⟨o,m,S,Q,p,n,w,q⟩:=q;exact q _ _ ⟨m,S,Ext.refl _ _,n,w⟩
theorem zjo(b:o=Ψ->m=Δ/\zj0 a=Γ)(c:∀e,o=Φ e->m=Γ/\PE X e (tE X.K cf a)):PartOk X cf m a o:=by
 cases o with
 |none=>obtain⟨rfl,h⟩:=b rfl;cases a with|con d=>exact .no ⟨d,rfl⟩|_=>exact nB h
 |some e=>obtain⟨rfl,h⟩:=c e rfl;exact .yes h
theorem zaM{x y:Str}(h:(x==y)=Γ):x=y:=by simpa using h
mutual
theorem zac:∀(ce:CE){N:List Str}{sc:Scope}{e:Expr}{X:Cx},Gd T cf k N sc X->chkE T ce N sc e=Γ->PE X e (tE X.K cf ce)
 |.loc i,N,sc,e,X,G,h=>by replace h:=zaa h;obtain⟨x,q,h⟩:=h;obtain⟨p,rfl⟩:=zaS q;simp only[Α,beq_iff_eq]at h;obtain⟨h1,h2,_⟩:=zed h.2;exact zpo G h.1.1 h.1.2 h1 h2| .con d,N,sc,e,X,G,h=>by replace h:=(Bool.or_eq_true _ _).mp h;rcases h with h|h;replace h:=zaa h;obtain⟨c,q,h⟩:=h;obtain⟨j,p,rfl⟩:=zgl q;exact zps h;replace h:=zaa h;obtain⟨x,q,h⟩:=h;obtain⟨p,rfl⟩:=zaS q;simp only[Α]at h;obtain⟨h1,h2,_⟩:=zed h.2;have h3:=h.1.2;unfold conG at h3;split at h3;rename_i d' e';exact znk G h.1.1 e' h3 h1;exact nB h3
 |.tst a,N,sc,e,X,G,h=>by exact nB h
 |.bin op a b,N,sc,e,X,G,h=>by replace h:=zaa h;obtain⟨⟨l,o,r⟩,q,h⟩:=h;obtain⟨p,rfl⟩:=zja q;simp only[Α,decide_eq_true_eq]at h;obtain⟨⟨rfl,h1⟩,h2⟩:=h;exact zpu (zac a G h1) (zac b G h2)| .neg a,N,sc,e,X,G,h=>by replace h:=zaa h;obtain⟨⟨o,x⟩,q,h⟩:=h;obtain⟨p,rfl⟩:=zeG q;simp only[Α,decide_eq_true_eq]at h;obtain⟨rfl,h1⟩:=h;exact zpk (zac a G h1)| .nt a,N,sc,e,X,G,h=>by replace h:=zaa h;obtain⟨⟨o,x⟩,q,h⟩:=h;obtain⟨p,rfl⟩:=zeG q;simp only[Α,decide_eq_true_eq]at h;obtain⟨rfl,h1⟩:=h;exact zrw (zac a G h1)| .cmp op a b,N,sc,e,X,G,h=>by replace h:=zaa h;obtain⟨⟨l,os,rs⟩,q,h⟩:=h;obtain⟨p,rfl⟩:=zcv q;rw[Α,decide_eq_true_eq]at h;obtain⟨e1,h⟩:=h;replace h:=zaa h;obtain⟨r,q2,h⟩:=h;cases zbk q2;cases e1;simp only[Α]at h;exact zpt G (zac a G h.1.2) (zac b G h.2) h.1.1| .cmp2 op op' a b c,N,sc,e,X,G,h=>by replace h:=zaa h;obtain⟨⟨l,os,rs⟩,q,h⟩:=h;obtain⟨p,rfl⟩:=zcv q;rw[Α,decide_eq_true_eq]at h;obtain⟨e1,h⟩:=h;replace h:=zaa h;obtain⟨⟨r,r'⟩,q2,h⟩:=h;cases two_inv q2;cases e1;simp only[Α]at h;obtain⟨⟨⟨⟨h1,h2⟩,h3⟩,h4⟩,h5⟩:=h;exact znl G (zac a G h3) (zac b G h4) (zac c G h5) h1 h2| .and a b,N,sc,e,X,G,h=>by replace h:=zaa h;obtain⟨⟨o,vs,p⟩,q,h⟩:=h;cases zbW q;rw[Α,decide_eq_true_eq]at h;obtain⟨e1,h⟩:=h;cases e1;dsimp only at h;split at h;rename_i x y rest;rw[Α]at h;obtain⟨h1,h2⟩:=h;split at h2;rename_i c;cases isEmpty_iff.mp c;exact zmg (zac a G h1) (zml (zac b G h2));exact zmg (zac a G h1) (zac b G h2);exact nB h
 |.or a b,N,sc,e,X,G,h=>by replace h:=zaa h;obtain⟨⟨o,vs,p⟩,q,h⟩:=h;cases zbW q;rw[Α,decide_eq_true_eq]at h;obtain⟨e1,h⟩:=h;cases e1;dsimp only at h;split at h;rename_i x y rest;rw[Α]at h;obtain⟨h1,h2⟩:=h;split at h2;rename_i c;cases isEmpty_iff.mp c;exact zpj (zac a G h1) (zml (zac b G h2));exact zpj (zac a G h1) (zac b G h2);exact nB h
 |.ite c a b,N,sc,e,X,G,h=>by replace h:=zaa h;obtain⟨⟨t,x,y⟩,q,h⟩:=h;obtain⟨p,rfl⟩:=zlb q;simp only[Α]at h;exact zpp (zaU c G h.1.1).1 (zac a G h.1.2) (zac b G h.2)| .tup es,N,sc,e,X,G,h=>by replace h:=zaa h;obtain⟨xs,q,h⟩:=h;obtain⟨j,p,rfl⟩:=zdm q;exact zph (za5 es G h).1| .lst es,N,sc,e,X,G,h=>by replace h:=zaa h;obtain⟨xs,q,h⟩:=h;obtain⟨p,rfl⟩:=zhP q;exact zpn (za5 es G h).1| .dget3 a b c,N,sc,e,X,G,h=>by replace h:=zaa h;obtain⟨⟨oe,x,ap,as,cp⟩,q,h⟩:=h;cases zdn q;replace h:=zaa h;obtain⟨⟨e1,e2⟩,q2,h⟩:=h;cases two_inv q2;simp only[Α]at h;obtain⟨⟨⟨⟨⟨⟨⟨hx,h1⟩,h2⟩,h3⟩,h4⟩,h5⟩,h6⟩,h7⟩:=h;cases zaM hx;exact zk3 G (zac a G h5) (zac b G h6) (zac c G h7) h1 h2 h3 h4| .ix a b,N,sc,e,X,G,h=>by replace h:=zaa h;obtain⟨⟨x,i⟩,q,h⟩:=h;obtain⟨p,rfl⟩:=zcu q;simp only[Α]at h;exact zry (zac a G h.1.2) (zac b G h.2) h.1.1| .fld a f,N,sc,e,X,G,h=>by replace h:=zaa h;obtain⟨⟨o,f',p⟩,q,h⟩:=h;cases zbX q;simp only[Α,decide_eq_true_eq]at h;obtain⟨⟨⟨rfl,h2⟩,h3⟩,h4⟩:=h;exact zpq G (zac a G h4) h2 h3| .mk c f x j es,N,sc,e,X,G,h=>by
  replace h:=zaa h;obtain⟨⟨x',args⟩,q,h⟩:=h;obtain⟨p2,p,rfl⟩:=zaT q;simp only[Α,or_eq_true,decide_eq_true_eq]at h;obtain⟨⟨⟨⟨⟨⟨rfl,h1⟩,h2⟩,h3⟩,h4⟩,h5⟩,h6⟩:=h;obtain⟨n1,n2,n3⟩:=zed h2;have ha:=(za5 es G h6).1;cases args with
  |nil=>
   have:es=.nil:=by cases es with|nil=>rfl|cons _ _=>rcases h5 with z|z<;>exact nB z
   rw[this];exact zpm G h4 h3 h1 n1
  |cons a as=>exact zrx G h4 h3 h1 n1 ha (zaV h6)
 |.meth m tb o es,N,sc,e,X,G,h=>by
  replace h:=zaa h;obtain⟨⟨oe,m',ap,args,cp⟩,q,h⟩:=h;cases zdn q;simp only[Α,or_eq_true,decide_eq_true_eq]at h;obtain⟨⟨⟨⟨⟨⟨⟨rfl,h1⟩,h2⟩,h3⟩,h4⟩,h5⟩,h6⟩,h7⟩:=h;have ho:=zac o G h6;have ha:=(za5 es G h7).1;cases args with
  |nil=>
   have:es=.nil:=by cases es with|nil=>rfl|cons _ _=>rcases h5 with z|z<;>exact nB z
   rw[this];exact zk1 G h1 ho h2 h3
  |cons a as=>exact zni G h1 ho ha (zaV h7) h2 h3 h4
 |.slS a b,N,sc,e,X,G,h=>by replace h:=zaa h;obtain⟨⟨x,i⟩,q,h⟩:=h;obtain⟨p,rfl⟩:=zcu q;replace h:=zaa h;obtain⟨s,q2,h⟩:=h;obtain⟨p2,rfl⟩:=zi5 q2;simp only[Α]at h;exact zpi (zac a G h.1) (zac b G h.2)| .sl a ml mh lo hi,N,sc,e,X,G,h=>by replace h:=zaa h;obtain⟨⟨x,i⟩,q,h⟩:=h;obtain⟨p,rfl⟩:=zcu q;replace h:=zaa h;obtain⟨⟨l,u⟩,q2,h⟩:=h;obtain⟨p2,rfl⟩:=zla q2;simp only[Α]at h;obtain⟨⟨h1,h2⟩,h3⟩:=h;refine zrv (zac a G h1) (zjo (λz=>?_) λe z=>?_) (zjo (λz=>?_) λe z=>?_);subst z;simpa using h2;subst z;simp only[Α]at h2;exact⟨h2.1,zac lo G h2.2⟩;subst z;simpa using h3;subst z;simp only[Α]at h3;exact⟨h3.1,zac hi G h3.2⟩| .call f j es,N,sc,e,X,G,h=>by
  replace h:=zaa h;obtain⟨⟨x,args⟩,q,h⟩:=h;obtain⟨p2,p,rfl⟩:=zaT q;simp only[Α,or_eq_true]at h;obtain⟨⟨⟨⟨h1,h2⟩,h3⟩,h4⟩,h5⟩:=h;obtain⟨n1,n2,n3⟩:=zed h2;obtain⟨ps,nd,hf,hj⟩:=zqU h3;have ha:=(za5 es G h5).1;cases args with
  |nil=>
   have:es=.nil:=by cases es with|nil=>rfl|cons _ _=>rcases h4 with z|z<;>exact nB z
   rw[this];exact zk4 G hf hj h1 n1
  |cons a as=>exact znm G hf hj h1 n1 ha (zaV h5)
 |.bi b es,N,sc,e,X,G,h=>by
  replace h:=zaa h;obtain⟨⟨x,args⟩,q,h⟩:=h;obtain⟨p2,p,rfl⟩:=zaT q;rw[Α,Α]at h;obtain⟨⟨h1,h2⟩,h3⟩:=h;obtain⟨n1,n2,n3⟩:=zed h2;split at h3;rename_i t qt;replace h3:=zaa h3;obtain⟨⟨e1,e2⟩,q2,h3⟩:=h3;cases two_inv q2;replace h3:=zaa h3;obtain⟨y,q3,h3⟩:=h3;obtain⟨p3,rfl⟩:=zaS q3;simp only[Α]at h3;obtain⟨⟨⟨⟨⟨hx,h4⟩,h5⟩,h6⟩,h7⟩,h8⟩:=h3;cases zaM hx;obtain⟨m1,m2,m3⟩:=zed h6;obtain⟨t1,t2⟩:=zoV h4;obtain⟨a,ea⟩:=zhz h7;have he:=(za5 es G h8).2 a .nil e1 [] ea rfl;have hst:=zaV h8;have eb:b=.isin t:=by cases b with|isin _=>cases qt;rfl|_=>exact nS qt
  rw[ea,eb];exact znj G (zaO G h1) (zaO G h5) t2 t1 m3 m1 he (by simpa using hst);rw[Α,Α]at h3;cases args with
  |nil=>cases h3.1.2
  |cons a as=>obtain⟨id,hc,hv⟩:=zis G h3.1.1;exact zrz hc (zaO G h1) hv (za5 es G h3.2).1 (zaV h3.2) n3 n1
 |.mt m o es,N,sc,e,X,G,h=>by
  replace h:=zaa h;obtain⟨⟨oe,x,ap,e1,cp⟩,q,h⟩:=h;cases zec q;simp only[Α]at h;obtain⟨⟨⟨⟨⟨h1,h2⟩,h3⟩,h4⟩,h5⟩,h6⟩:=h;obtain⟨a,ea⟩:=zhz h4;have he:=(za5 es G h6).2 a .nil e1 [] ea rfl;have hst:zai e1=Γ:=by simpa using zaV h6
  rw[ea];cases m with| append=>cases zaM h1;exact zng PySem.F.slot_list_append PySem.F.type_list_append zkD (zac o G h5) he hst h2 h3| popAt=>cases zaM h1;exact zng PySem.F.slot_list_pop PySem.F.type_list_pop zlh (zac o G h5) he hst h2 h3| count=>cases zaM h1;exact zng PySem.F.slot_list_count PySem.F.type_list_count zlW (zac o G h5) he hst h2 h3
 |.mkL l,N,sc,e,X,G,h=>by
  replace h:ite (zof l=Γ) _ _=Γ:=h;split at h;rename_i c;split at h;have ht:zod l=Γ:=by cases l with|comp=>rfl|_=>exact nB c
  exact PE.imp ((zbl l G h).2.1 ht) λσ H Qv q=>zjx q;replace h:=zaa h;obtain⟨⟨x,e1⟩,q,h⟩:=h;obtain⟨p2,p,rfl⟩:=zaq q;simp only[Α]at h;obtain⟨⟨⟨hx,h1⟩,h2⟩,h4⟩:=h;cases zaM hx;have hr:zig l=Δ:=by cases l with|comp=>rfl|_=>exact nB c
  exact zmf G (zaO G h1) ((zbl l G h4).1 hr) h2;replace h:=zaa h;obtain⟨⟨x,e1⟩,q,h⟩:=h;obtain⟨p2,p,rfl⟩:=zaq q;simp only[Α,or_eq_true,not_eq_true']at h;obtain⟨⟨⟨⟨hx,h1⟩,h2⟩,h3⟩,h4⟩:=h;cases zaM hx;have hl:=zbl l G h4;rcases h3 with h3|h3;exact zmf G (zaO G h1) (hl.1 h3) h2;have:∃a,l=.rng1 a:=by cases l with|rng1 a=>exact⟨a,rfl⟩|_=>exact nB h3
  obtain⟨a,ea⟩:=this;obtain⟨a',p3,p4,rfl,hr,ha,hs⟩:=hl.2.2.2 a ea;rw[ea];exact znh G (zaO G h1) hr ha hs
 |.mkT l,N,sc,e,X,G,h=>by
  replace h:=zaa h;obtain⟨⟨x,e1⟩,q,h⟩:=h;obtain⟨p2,p,rfl⟩:=zaq q;simp only[Α,or_eq_true,not_eq_true']at h;obtain⟨⟨⟨⟨hx,h1⟩,h2⟩,h3⟩,h4⟩:=h;cases zaM hx;have hl:=zbl l G h4;rcases h3 with h3|h3;exact zpl G (zaO G h1) (hl.1 h3) h2;have:∃a,l=.rng1 a:=by cases l with|rng1 a=>exact⟨a,rfl⟩|_=>exact nB h3
  obtain⟨a,ea⟩:=this;obtain⟨a',p3,p4,rfl,hr,ha,hs⟩:=hl.2.2.2 a ea;rw[ea];exact zk0 G (zaO G h1) hr ha hs
 |.all l,N,sc,e,X,G,h=>by replace h:=zaa h;obtain⟨⟨x,e1⟩,q,h⟩:=h;obtain⟨p2,p,rfl⟩:=zaq q;simp only[Α,not_eq_true']at h;obtain⟨⟨⟨⟨hx,h1⟩,h2⟩,h3⟩,h4⟩:=h;cases zaM hx;exact zpv G (zaO G h1) ((zbl l G h4).1 h3) h2| .ext a l,N,sc,e,X,G,h=>by replace h:=zaa h;obtain⟨⟨oe,x,ap,e1,cp⟩,q,h⟩:=h;cases zec q;simp only[Α]at h;obtain⟨⟨⟨⟨⟨⟨hx,h1⟩,h2⟩,h3⟩,h4⟩,h5⟩,h6⟩:=h;cases zaM hx;exact zpr (zac a G h5) ((zbl l G h6).2.1 h4) h1 h2 h3| .lenset l,N,sc,e,X,G,h=>by replace h:=zaa h;obtain⟨⟨x,e1⟩,q,h⟩:=h;obtain⟨p2,p,rfl⟩:=zaq q;replace h:=zaa h;obtain⟨⟨y,e2⟩,q2,h⟩:=h;obtain⟨p3,p4,hy⟩:=zaq q2;simp only[Α,not_eq_true']at h;obtain⟨⟨⟨⟨⟨⟨hx,h1⟩,hz⟩,h2⟩,h3⟩,h4⟩,h5⟩:=h;cases zaM hx;cases zaM hz;dsimp only at hy;subst hy;exact ziX G (zaO G h1) (zaO G h2) ((zbl l G h5).1 h4) h3| .dnew3,N,sc,e,X,G,h=>by obtain⟨p,rfl⟩:=zgk h;exact zk2| .sset a,N,sc,e,X,G,h=>by replace h:=zaa h;obtain⟨⟨x,e1⟩,q,h⟩:=h;obtain⟨p2,p,rfl⟩:=zaq q;replace h:=zaa h;obtain⟨⟨y,e2⟩,q2,h⟩:=h;obtain⟨p3,p4,hy⟩:=zaq q2;simp only[Α]at h;obtain⟨⟨⟨⟨⟨hx,h1⟩,hz⟩,h2⟩,h3⟩,h5⟩:=h;cases zaM hx;cases zaM hz;dsimp only at hy;subst hy;exact znf G (zaO G h1) (zaO G h2) (zac a G h5) h3| .ssetP a,N,sc,e,X,G,h=>by replace h:=zaa h;obtain⟨⟨x,e1⟩,q,h⟩:=h;obtain⟨p2,p,rfl⟩:=zaq q;replace h:=zaa h;obtain⟨⟨y,e2⟩,q2,h⟩:=h;obtain⟨p3,p4,hy⟩:=zaq q2;simp only[Α]at h;obtain⟨⟨⟨⟨⟨hx,h1⟩,hz⟩,h2⟩,h3⟩,h5⟩:=h;cases zaM hx;cases zaM hz;dsimp only at hy;subst hy;exact zkZ G (zaO G h1) (zaO G h2) (zac a G h5) h3
theorem za5:∀(ces:CEs){N:List Str}{sc:Scope}{es:List Expr}{X:Cx},Gd T cf k N sc X->zbO T ces N sc es=Γ->EsOk cf ces X es
 |.nil,N,sc,es,X,G,h=>by simp only[zbO,isEmpty_iff]at h;subst h;exact⟨zmh,λa r e es' z=>by cases z⟩| .cons a r,N,sc,es,X,G,h=>by cases es with|nil=>simp[zbO]at h| cons e es=>simp only[zbO,Α]at h;have he:=zac a G h.1.2;exact⟨ziZ he (za5 r G h.2).1 h.1.1,λa' r' e' es' z1 z2=>by cases z1;cases z2;exact he⟩
theorem zaU:∀(ce:CE){N:List Str}{sc:Scope}{e:Expr}{X:Cx},Gd T cf k N sc X->chkT T ce N sc e=Γ->PT X e (tT X.K cf ce)/\((∃op v r p,e=.BoolOp op (v::r) p)->PW X e (tT X.K cf ce))
 |.cmp op a b,N,sc,e,X,G,h=>by replace h:=zaa h;obtain⟨⟨l,os,rs⟩,q,h⟩:=h;obtain⟨p,rfl⟩:=zcv q;rw[Α,decide_eq_true_eq]at h;obtain⟨e1,h⟩:=h;replace h:=zaa h;obtain⟨r,q2,h⟩:=h;cases zbk q2;cases e1;simp only[Α]at h;exact⟨zpa G (zac a G h.1.2) (zac b G h.2) h.1.1,λ⟨_,_,_,_,z⟩=>by cases z⟩| .cmp2 op op' a b c,N,sc,e,X,G,h=>by replace h:=zaa h;obtain⟨⟨l,os,rs⟩,q,h⟩:=h;obtain⟨p,rfl⟩:=zcv q;rw[Α,decide_eq_true_eq]at h;obtain⟨e1,h⟩:=h;replace h:=zaa h;obtain⟨⟨r,r'⟩,q2,h⟩:=h;cases two_inv q2;cases e1;simp only[Α]at h;obtain⟨⟨⟨⟨h1,h2⟩,h3⟩,h4⟩,h5⟩:=h;exact⟨zm1 G (zac a G h3) (zac b G h4) (zac c G h5) h1 h2,λ⟨_,_,_,_,z⟩=>by cases z⟩| .nt a,N,sc,e,X,G,h=>by replace h:=zaa h;obtain⟨⟨o,x⟩,q,h⟩:=h;obtain⟨p,rfl⟩:=zeG q;simp only[Α,decide_eq_true_eq]at h;obtain⟨rfl,h1⟩:=h;exact⟨zrt (zaU a G h1).1,λ⟨_,_,_,_,z⟩=>by cases z⟩| .and a b,N,sc,e,X,G,h=>by replace h:=zaa h;obtain⟨⟨o,vs,p⟩,q,h⟩:=h;cases zbW q;rw[Α,decide_eq_true_eq]at h;obtain⟨e1,h⟩:=h;cases e1;dsimp only at h;split at h;rename_i x y rest;rw[Α]at h;obtain⟨h1,h2⟩:=h;split at h2;rename_i c;cases isEmpty_iff.mp c;have w:=zmb (pos:=p) (zaU a G h1).1 (znz (zaU b G h2).1);exact⟨w.pt,λ_=>w⟩;have w:=zmb (zaU a G h1).1 ((zaU b G h2).2 ⟨_,_,_,_,rfl⟩);exact⟨w.pt,λ_=>w⟩;exact nB h
 |.or a b,N,sc,e,X,G,h=>by replace h:=zaa h;obtain⟨⟨o,vs,p⟩,q,h⟩:=h;cases zbW q;rw[Α,decide_eq_true_eq]at h;obtain⟨e1,h⟩:=h;cases e1;dsimp only at h;split at h;rename_i x y rest;rw[Α]at h;obtain⟨h1,h2⟩:=h;split at h2;rename_i c;cases isEmpty_iff.mp c;have w:=zo9 (pos:=p) (zaU a G h1).1 (zpM (zaU b G h2).1);exact⟨w.pt,λ_=>w⟩;have w:=zo9 (zaU a G h1).1 ((zaU b G h2).2 ⟨_,_,_,_,rfl⟩);exact⟨w.pt,λ_=>w⟩;exact nB h
 |.tst a,N,sc,e,X,G,h=>by replace h:=(Bool.and_eq_true _ _).mp h;exact⟨zo8 (zac a G h.2) h.1,λ⟨_,_,_,_,z⟩=>by rw[z]at h;exact nB h.1⟩|.loc i,N,sc,e,X,G,h=>absurd h Ζ|.con d,N,sc,e,X,G,h=>absurd h Ζ|.bin op a b,N,sc,e,X,G,h=>absurd h Ζ|.neg a,N,sc,e,X,G,h=>absurd h Ζ|.ite c a b,N,sc,e,X,G,h=>absurd h Ζ|.tup es,N,sc,e,X,G,h=>absurd h Ζ|.lst es,N,sc,e,X,G,h=>absurd h Ζ|.dget3 a b c,N,sc,e,X,G,h=>absurd h Ζ|.ix a b,N,sc,e,X,G,h=>absurd h Ζ|.fld a f,N,sc,e,X,G,h=>absurd h Ζ|.mk c f x j es,N,sc,e,X,G,h=>absurd h Ζ|.meth m tb o es,N,sc,e,X,G,h=>absurd h Ζ|.slS a b,N,sc,e,X,G,h=>absurd h Ζ|.sl a ml mh lo hi,N,sc,e,X,G,h=>absurd h Ζ|.call f j es,N,sc,e,X,G,h=>absurd h Ζ|.bi b es,N,sc,e,X,G,h=>absurd h Ζ|.mt m o es,N,sc,e,X,G,h=>absurd h Ζ|.mkL l,N,sc,e,X,G,h=>absurd h Ζ|.mkT l,N,sc,e,X,G,h=>absurd h Ζ|.all l,N,sc,e,X,G,h=>absurd h Ζ|.ext a l,N,sc,e,X,G,h=>absurd h Ζ|.lenset l,N,sc,e,X,G,h=>absurd h Ζ|.sset a,N,sc,e,X,G,h=>absurd h Ζ|.ssetP a,N,sc,e,X,G,h=>absurd h Ζ|.dnew3,N,sc,e,X,G,h=>absurd h Ζ
theorem zbl:∀(cl:CL){N:List Str}{sc:Scope}{e:Expr}{X:Cx},Gd T cf k N sc X->chkL T cl N sc e=Γ->LOk T cf k cl X e
 |.val a,N,sc,e,X,G,h=>by replace h:=(Bool.and_eq_true _ _).mp h;have hp:=zpf (zac a G h.2);exact⟨λ_=>hp,λz=>(by exact nB z),λtg _=>zmc hp zqA,λa z=>by cases z⟩| .rng1 a,N,sc,e,X,G,h=>by replace h:=zaa h;obtain⟨⟨x,e1⟩,q,h⟩:=h;obtain⟨p2,p,rfl⟩:=zaq q;simp only[Α]at h;obtain⟨⟨⟨hx,h1⟩,h2⟩,h3⟩:=h;cases zaM hx;have he:=zac a G h3;exact⟨λz=>(by cases z),λz=>(by exact nB z),λtg _=>zm9 (zaO G h1) he h2,λa z=>by cases z;exact⟨e1,p2,p,rfl,zaO G h1,he,h2⟩⟩| .rng2 a b,N,sc,e,X,G,h=>by replace h:=zaa h;obtain⟨⟨x,args⟩,q,h⟩:=h;obtain⟨p2,p,rfl⟩:=zaT q;replace h:=zaa h;obtain⟨⟨e1,e2⟩,q2,h⟩:=h;cases two_inv q2;simp only[Α]at h;obtain⟨⟨⟨⟨⟨hx,h1⟩,h2⟩,h3⟩,h4⟩,h5⟩:=h;cases zaM hx;exact⟨λz=>(by cases z),λz=>(by exact nB z),λtg _=>zm8 (zaO G h1) (zac a G h4) (zac b G h5) h2 h3,λa z=>by cases z⟩| .enum a,N,sc,e,X,G,h=>by replace h:=zaa h;obtain⟨⟨x,e1⟩,q,h⟩:=h;obtain⟨p2,p,rfl⟩:=zaq q;simp only[Α]at h;obtain⟨⟨⟨hx,h1⟩,h2⟩,h3⟩:=h;cases zaM hx;refine⟨λz=>(by cases z),λz=>(by exact nB z),λtg ht=>?_,λa z=>by cases z⟩;cases tg with|Tuple es j pt=>exact zna (zaO G h1) (zac a G h3) h2|_=>exact nB ht
 |.comp nt js g it c e,N,sc,ex,X,G,h=>by
  replace h:=zaa h;obtain⟨⟨elt,gs,scope,p⟩,q,h⟩:=h;cases zg4 q;replace h:=zaa h;obtain⟨⟨tg,iter,ifs,asy⟩,q2,h⟩:=h;cases zbk q2;rw[Α,Α,Α,Α,Α,Α,Α,Α,decide_eq_true_eq,decide_eq_true_eq,decide_eq_true_eq]at h;obtain⟨⟨⟨⟨⟨⟨⟨⟨h1,h2⟩,h3⟩,h4⟩,h5⟩,h6⟩,h7⟩,h8⟩,h9⟩:=h;dsimp only at h1 h2 h3 h4 h5 h6 h7 h8 h9;rw[Α]at h3;subst h1 h5;have ok:=zhy G h2;have G':=zkd G (tgs:=zbD tg) ok h6;have ht:∀cl C fp s H pn,PTs (zay X (capN X.N (zbD tg) js) scope cl C fp s H pn) ifs (tT X.K cf c):=λcl C fp s H pn=>by split at h8;rename_i ce;cases isEmpty_iff.mp ce;exact zgS (X:=zay X (capN X.N (zbD tg) js) scope cl C fp s H pn) h8;replace h8:=zaa h8;obtain⟨t,q3,h8⟩:=h8;cases zbk q3;exact zjf (zaU c (G' cl C fp s H pn) h8).1
  have hp:PE X (.ListComp elt [⟨tg,iter,ifs,0⟩] scope p) (tLt X.K cf (.comp (zbD tg).length js g it c e)):=PE.imp (zlr X.env.scope (zbD tg) js G.calm rfl ok ((zbl it G h4).2.2.1 tg h3.2) (λcl C fp s H pn=>zmW (G' cl C fp s H pn) h7) ht (λcl C fp s H pn=>zac e (G' cl C fp s H pn) h9) (zgE h3.1 X.env)) λσ H Qv q=>zhx G.tab.frm q;exact⟨λ_=>(PE.ofT hp),λ_=>hp,λtg _=>zmc (PE.ofT hp) zn4,λa z=>by cases z⟩
end
end
end R
end
namespace R
open PySem PySem.Spec PyProof.Rows L2
variable[Mks]
section
variable{T:Tab}{cf:CF}{k:Nat}
theorem zm4(G:Gd T cf k N sc X)(I:N[i]?=Φ x)(u:zfG sc x=Γ)(h:chkE T (.mkL l) N sc (.ListComp m gs scope p2)=Γ)(hr:PSs X rest (tS X.K cf r)):
  PSs X (.Assign [.Name x p] (.ListComp m gs scope p2) pos::rest) (tS X.K cf (.asg i (.mkL l) r)):=by
 have y:∃b,swapsWith (.ListComp m gs scope p2) (Φ (.Name x p)) pos.line X.env=pure b:=⟨_,rfl⟩;obtain⟨b,y⟩:=y;cases b with
 |false=>refine PSs.imp (zaX (zmk (by rw[G.nm];exact G.nd) (by rw[G.nm];exact I) (G.lc u).1 (zac (.mkL l) G h) y (G.lc u).2) hr) λE σ H z=>?_;obtain⟨δ,ι,S,Q,hs,hh,w,lf⟩:=z;change W (Out.bind _ _) _ at w;simp only[zab] at w;exact tE.run hs hh w λd v J H1 S1 x1 L M r1 w1=>⟨δ.set i (Φ d),J,S1,Q,L.set r1 i,M,w1,lf.up x1⟩| true=>
  replace h:ite (zof l=Γ) _ _=Γ:=h;split at h;rename_i c0;split at h;cases l with
  |comp nt A g it c e=>
   replace h:=zaa h;obtain⟨⟨elt',gs',B,p'⟩,q,h⟩:=h;cases zg4 q;replace h:=zaa h;obtain⟨⟨o,iter,O,asy⟩,q2,h⟩:=h;cases zbk q2;rw[Α,Α,Α,Α,Α,Α,Α,Α,decide_eq_true_eq,decide_eq_true_eq,decide_eq_true_eq]at h;obtain⟨⟨⟨⟨⟨⟨⟨⟨h1,h2⟩,U⟩,h4⟩,h5⟩,h6⟩,h7⟩,n⟩,h9⟩:=h;rw[Α]at U;subst h1 h5;have ok:=zhy G h2;have Y:=zkd G ok h6;have ht:∀a C f s H j,PTs (zay X (capN X.N (zbD o) A) scope a C f s H j) O (tT X.K cf c):=λa C f s H j=>by split at n;rename_i ce;cases isEmpty_iff.mp ce;exact zgS n;replace n:=zaa n;obtain⟨t,q3,n⟩:=n;cases zbk q3;exact zjf (zaU c (Y a C f s H j) n).1
   have he:∀a C f s H j,PE (zay X (capN X.N (zbD o) A) scope a C f s H j) m (tE X.K cf e):=λa C f s H j=>zac e (Y a C f s H j) h9;have hg:∀a C f s H j,PG (zay X (capN X.N (zbD o) A) scope a C f s H j) o (tG X.K g):=λa C f s H j=>zmW (Y a C f s H j) h7;have hps:=znH X.env.scope (zbD o) A (by rw[G.nm];exact G.nd) (by rw[G.nm];exact I) (G.lc u).1 G.calm rfl ok ((zbl it G h4).2.2.1 o U.2) hg ht he y (zgE U.1 X.env) (G.lc u).2;exact zm6 G I ⟨_,hps,λσ H Qv q=>zhx G.tab.frm (zjx q)⟩ hr
  |_=>exact nB c0
  exact nB h;exact nB h
theorem zoA(h:zbK v=Δ)(a:chkE T e N c v=Γ):∃l b gs scope p,v=.ListComp b gs scope p/\e=.mkL l:=by
 cases v with
 |ListComp b gs scope p=>cases e with|mkL l=>exact⟨l,b,gs,scope,p,rfl,rfl⟩|_=>first|exact nB a|exact absurd (h.symm.trans a) Ζ|(cases l<;>(first|exact nB a|exact absurd (h.symm.trans a) Ζ))
 |SetComp=>cases e<;>(first|exact nB a|exact absurd (h.symm.trans a) Ζ|(rename_i l;cases l<;>(first|exact nB a|exact absurd (h.symm.trans a) Ζ)))|DictComp=>cases e<;>(first|exact nB a|exact absurd (h.symm.trans a) Ζ|(rename_i l;cases l<;>(first|exact nB a|exact absurd (h.symm.trans a) Ζ)))|_=>cases h
theorem za3:∀(cs:CS){N:List Str}{n:Scope}{st:List Stmt}{X:Cx},Gd T cf k N n X->chkS T cs N n st=Γ->PSs X st (tS X.K cf cs)
 |.nil,N,n,st,X,G,h=>by obtain rfl:=List.isEmpty_iff.mp h;exact zpc|.stop,N,n,st,X,G,h=>λpins s σ H E I z=>(by obtain⟨δ,ι,S,Q,hs,hh,w,l⟩:=z;exact (w.elim))| .asg i e r,N,n,st,X,G,h=>by cases st with|nil=>exact nB h| cons s d=>replace h:=zaa h;obtain⟨⟨M,v,pos⟩,q,h⟩:=h;cases zcw q;replace h:=zaa h;obtain⟨x,L,h⟩:=h;obtain⟨p,y⟩:=zaS L;subst y;simp only[Α,beq_iff_eq]at h;obtain⟨⟨⟨m,A⟩,B⟩,C⟩:=h;have hr:=za3 r G C;cases hn:zbK v with|true=>exact zpe G m A (zac e G B) hn hr| false=>obtain⟨l,elt,gs,O,U,rfl,rfl⟩:=zoA hn B;exact zm4 G m A B hr
 |.asgT g e r,N,n,st,X,G,h=>by cases st with|nil=>exact nB h| cons s d=>replace h:=zaa h;obtain⟨⟨M,v,pos⟩,q,h⟩:=h;cases zcw q;replace h:=zaa h;obtain⟨es,L,h⟩:=h;obtain⟨j,p,y⟩:=zdm L;subst y;simp only[Α,decide_eq_true_eq]at h;obtain⟨⟨⟨⟨m,A⟩,B⟩,C⟩,J⟩:=h;refine zm5 G B A (zac e G C) ?_ (za3 r G J);rw[or_eq_true]at m;rcases m with m|m;obtain⟨x,y⟩:=Option.isSome_iff_exists.mp m;obtain⟨U,Y⟩:=zaS y;exact .inl ⟨x,U,Y⟩;obtain⟨⟨x,as⟩,y⟩:=Option.isSome_iff_exists.mp m;obtain⟨U,p3,Y⟩:=zaT y;exact .inr ⟨_,_,_,_,Y⟩
 |.setF a f e r,N,n,st,X,G,h=>by cases st with|nil=>exact nB h| cons s d=>replace h:=zaa h;obtain⟨⟨M,v,pos⟩,q,h⟩:=h;cases zcw q;replace h:=zaa h;obtain⟨⟨o,f',p⟩,L,h⟩:=h;have y:=zbX L;subst y;simp only[Α,decide_eq_true_eq]at h;obtain⟨⟨⟨⟨m,A⟩,C⟩,J⟩,h6⟩:=h;subst m;exact zm2 G A (zac a G C) (zac e G J) (za3 r G h6)
 |.setIx a b e r,N,n,st,X,G,h=>by cases st with|nil=>exact nB h| cons s d=>replace h:=zaa h;obtain⟨⟨M,v,pos⟩,q,h⟩:=h;cases zcw q;replace h:=zaa h;obtain⟨⟨o,i⟩,L,h⟩:=h;obtain⟨p,y⟩:=zcu L;subst y;simp only[Α]at h;obtain⟨⟨⟨⟨m,A⟩,B⟩,C⟩,J⟩:=h;exact zkQ G (zac a G A) (zac b G B) (zac e G C) m (za3 r G J)
 |.ifS c t u r,N,n,st,X,G,h=>by cases st with|nil=>exact nB h| cons s d=>replace h:=zaa h;obtain⟨⟨e,a,b⟩,q,h⟩:=h;obtain⟨p,rfl⟩:=zi7 q;simp only[Α]at h;exact zru (zaU c G h.1.1.1).1 (za3 t G h.1.1.2) (za3 u G h.1.2) (za3 r G h.2)
 |.forS g l b r,N,n,st,X,G,h=>by cases st with|nil=>exact nB h| cons s d=>replace h:=zaa h;obtain⟨⟨M,it,body⟩,q,h⟩:=h;obtain⟨p,rfl⟩:=zi8 q;simp only[Α]at h;obtain⟨⟨⟨⟨m,A⟩,B⟩,C⟩,J⟩:=h;exact zpd G ((zbl l G A).2.2.1 M J.2) (zmW G J.1) (za3 b G B) m (za3 r G C)
 |.ret e r,N,n,st,X,G,h=>by cases st with|nil=>exact nB h| cons s d=>replace h:=zaa h;obtain⟨v,q,h⟩:=h;obtain⟨p,rfl⟩:=zi6 q;simp only[Α]at h;exact zpb (zac e G h.1) (za3 r G h.2)
 |.expr e r,N,n,st,X,G,h=>by cases st with|nil=>exact nB h| cons s d=>replace h:=zaa h;obtain⟨v,q,h⟩:=h;obtain⟨p,rfl⟩:=zi9 q;simp only[Α]at h;exact zm3 (zac e G h.1.2) h.1.1 (za3 r G h.2)
theorem RS.start{K}(r:RVs K ι H l vs)(c:l.length=F.np)(f:F.nn=N.length):RS K ι H (zaP F l) (L2.start N vs):=by
 have a:=r.length;refine⟨by simp[zaP,L2.start,a,c,f],λi d e=>?_⟩;unfold zaP at e;unfold L2.start;by_cases b:i<l.length;rw[getElem?_append_left (by simpa using b),getElem?_map]at e;rw[getElem?_append_left (by simpa[a]using b),getElem?_map];cases z:l[i]? with
 |none=>rw[z]at e;exact nS e
 |some j=>rw[z]at e;simp only[Option.map_some,Option.some.injEq]at e;subst e;obtain⟨v,g,h⟩:=r.get z;exact⟨v,by rw[g];rfl,h⟩
 . rw[getElem?_append_right (by simpa using b),List.getElem?_replicate]at e;split at e<;>cases e
def ChkD(T:Tab)(b:CS)(N:List Str)(a:Scope)(st:List Stmt):Prop:=chkS T b N a st=Γ/\N≠T.lam
structure DefOk(K:Frag)(mg:Str->Option Λ)(T:Tab)(Pg:List Fn)(fi:Nat)(x:Str)(ps:List Str)(nd:Nat):Prop where
 ex:∃(F:Fn) (qual:Str) (st:Stmt) (dV:Λ) (f:Addr) (fd:FuncData) (N:List Str),Pg[fi]?=Φ F/\F.prim=Ψ/\FunV K x qual st dV f fd/\FnScope N ps (zad st)/\ChkD T F.body N (zad st) (zar st)/\F.np=ps.length/\F.nn=N.length/\
  mg x=Φ (.ref f)/\∀j,j<=nd->Binds K fd ps (List.replicate j Λ.none)
theorem znJ:Fr S (prm S p a):=by
 unfold prm
 repeat' first
 |exact .bad
 |exact .ok
 |exact .of (.push _ _)
 |split
theorem zfL(a)(n):CFok (callF a n):=by
 induction n with
 |zero=>exact λ_ _ _ _ _ e=>by cases e| succ n b=>
  intro f c S;show Fr S _;unfold callF
  repeat' first
  |exact .bad
  |exact .ok
  |exact frS b _ _ _
  |exact znJ
  |refine Fr.bind ?_ λ_ _=>?_
  |split
variable{P:Τ}{w:ϐ}{K:Frag}{mg:Str->Option Λ}{base:Heap}{Pg:List Fn}
theorem zde{a:List Str}(b:Pg[fi]?=Φ F)(d:F.np=a.length)(h:spF K (callF Pg n) fi vs H Q E):vs.length=a.length:=by obtain⟨e,S,f,r,g,w⟩:=h;rw[r.length];cases n with|zero=>exact w.elim| succ n=>simp only[callF,b]at w;split at w;rename_i c;rw[c,d];exact w.elim
theorem zkm{st}(tab:TabOk T (callF Pg n) m P w K mg base)(B:FunV K x b st dV f C)(o:Pg[fi]?=Φ F)(S:FnScope N p (zad st))(t:ChkD T F.body N (zad st) (zar st))(I:F.np=p.length)(J:F.nn=N.length)(L:F.prim=Ψ:=by rfl):
  FnOk P w K mg base CX0 (m+2) f C p (spF K (callF Pg (n+1)) fi):=by
 refine B.ok S (λM H Q E h=>zde o I h) λl A a s H M Q E O h=>?_;obtain⟨U,Y,ds,r,hh,g⟩:=h;have G:Gd T (callF Pg n) m N (zad st) (cxOf CX0 P w K mg base N b (zad st) f l A a s H E).nox:=⟨rfl,S.nd,λx e=>e,λx e=>e,λx e=>.inl e,λx e=>e,.inl λ_=>rfl,rfl,rfl,O,tab,λz=>absurd z t.2⟩;refine⟨_,za3 F.body G t.1,?_⟩;simp only[callF,o,L]at g;split at g;rename_i c;rw[zab]at g;refine⟨zaP F ds,U,Y,_,RS.start r c J,hh,g,?_⟩;intro fl i u S' y j q;cases fl with|nx δ'=>exact λσ' hs'=>q .non u i y rfl j|rt d=>exact λv rv=>q v u i y rv j
 exact g.elim
structure MOk(K:Frag)(T:Tab)(Pg:List Fn)(fi j:Nat)(Ex:Addr->Prop):Prop where
 ex:∃(F:Fn) (x qual:Str) (st:Stmt) (dV:Λ) (f:Addr) (fd:FuncData) (N ps:List Str),Pg[fi]?=Φ F/\F.prim=Ψ/\FunV K x qual st dV f fd/\FnScope N ps (zad st)/\ChkD T F.body N (zad st) (zar st)/\F.np=ps.length/\F.nn=N.length/\
  Binds K fd ps (List.replicate j Λ.none)/\Ex f
theorem zeP(z:MOk K T Pg fi j i):∃f a c,i f/\keepIn K (.ref f)=Γ/\Binds K a c (List.replicate j Λ.none)/\FnOk P w K mg base CX0 0 f a c (spF K (callF Pg 0) fi):=by obtain⟨F,x,g,st,q,f,a,N,c,l,t,m,S,u,n,y,o,e⟩:=z.ex;refine⟨f,a,c,e,m.kp,o,⟨λp H Q E h=>zde l n h,λA d s H args B p Q E C G b v h=>?_⟩⟩;obtain⟨I,S,J,r,L,w⟩:=h;exact w.elim
theorem zeQ(tab:TabOk T (callF Pg n) m P w K mg base)(z:MOk K T Pg fi j g):∃f a b,g f/\keepIn K (.ref f)=Γ/\Binds K a b (List.replicate j Λ.none)/\FnOk P w K mg base CX0 (m+2) f a b (spF K (callF Pg (n+1)) fi):=by obtain⟨F,x,c,st,r,f,a,N,b,h,i,d,S,l,o,p,q,e⟩:=z.ex;exact⟨f,a,b,e,d.kp,q,zkm tab d h S l o p i⟩
def ExM(K:Frag)(c:Nat)(m:Str)(f:Addr):Prop:=∃C,Mks.cl[c]?=Φ C/\Cls K C/\Meth K C m f
def ExI(K:Frag)(c:Nat)(f:Addr):Prop:=∃C,Mks.cl[c]?=Φ C/\Mk K C f
def ExC(K:Frag)(mg:Str->Option Λ)(x m:Str)(f:Addr):Prop:=∃(C:Addr) (a:Λ),mg x=Φ (.ref C)/\specialIn K (.ref C) "__getattribute__"=Φ (Φ (.builtin "type.__getattribute__"))/\readsIn K C a=Γ/\findCls K (.ref C) a m=Φ (.val (.ref f))
structure ClsOk(T:Tab)(K:Frag)(mg:Str->Option Λ)(Pg:List Fn):Prop where
 cls:∀(c:Nat)(x:Str),T.cls[c]?=Φ x->∃C,Mks.cl[c]?=Φ C/\Cls K C/\mg x=Φ (.ref C)/\∀f,T.flds.contains f=Γ->NoAttr K C f
 mth:∀(c:Nat)(m:Str)(fi:Nat),T.mts.contains (c,m,fi)=Γ->MOk K T Pg fi 0 (ExM K c m)
 ini:∀(c fi j:Nat),T.inits.contains (c,fi,j)=Γ->MOk K T Pg fi j (ExI K c)
 cmd:∀(x m:Str)(fi:Nat),T.cms.contains (x,m,fi)=Γ->MOk K T Pg fi 0 (ExC K mg x m)
 cln:Mks.cl.length<=T.cls.length
 isa:∀(x:Str)(cs:List Nat),T.isas.contains (x,cs)=Γ->∃D,mg x=Φ (.ref D)/\∀c C,Mks.cl[c]?=Φ C->IsaOk K C/\kitOne K (.ref C) (.ref D)=Φ (cs.contains c)
theorem zj9(h:∃f a b,ExM K c m f/\keepIn K (.ref f)=Γ/\Binds K a b []/\FnOk P w K mg base CX0 k f a b (spF K cf fi)):HasM P w K mg base k c m (spF K cf fi):=by obtain⟨f,a,b,⟨C,d,e,g⟩,_,i,j⟩:=h;exact⟨C,f,a,b,d,e,g,j,i⟩
theorem zka(h:∃f a b,ExI K c f/\keepIn K (.ref f)=Γ/\Binds K a b (List.replicate j Λ.none)/\FnOk P w K mg base CX0 k f a b (spF K cf fi)):HasI P w K mg base k c j (spF K cf fi):=by obtain⟨f,a,b,⟨C,d,e⟩,_,g,i⟩:=h;exact⟨C,f,a,b,d,e,i,g⟩
theorem zkb(h:∃f a b,ExC K mg x m f/\keepIn K (.ref f)=Γ/\Binds K a b []/\FnOk P w K mg base CX0 k f a b (spF K cf fi)):HasC P w K mg base k x m (spF K cf fi):=by obtain⟨f,a,b,⟨C,c,d,e,g,i⟩,j,l,n⟩:=h;exact⟨C,f,a,b,c,d,e,g,i,j,n,l⟩
structure PrimOk(P:Τ)(w:ϐ)(K:Frag)(mg:Str->Option Λ)(base:Heap)(T:Tab)(Pg:List Fn)(fi:Nat)(x:Str)(ps:List Str)(nd:Nat):Prop where
 ex:∃(F:Fn) (p:Prim) (f:Addr) (fd:FuncData),Pg[fi]?=Φ F/\F.prim=Φ p/\F.np=ps.length/\mg x=Φ (.ref f)/\keepIn K (.ref f)=Γ/\(∀j,j<=nd->Binds K fd ps (List.replicate j Λ.none))/\
  ∀n,3<=n->TabOk T (callF Pg n) (2*n) P w K mg base->FnOk P w K mg base CX0 (2*n+2) f fd ps (spF K (callF Pg (n+1)) fi)
theorem zo2(U:∀x,T.blt.contains x=Γ->mg x=Ψ)(Y:∀x d,T.cons.lookup x=Φ d->znn d=Γ/\∃u,mg x=Φ u/\RelV (sV d) u)(hd:∀fi x l o,T.fns[fi]?=Φ (x,l,o)->DefOk K mg T Pg fi x l o\/PrimOk P w K mg base T Pg fi x l o)(e:ClsOk T K mg Pg) :
  ∀n,TabOk T (callF Pg n) (2*n) P w K mg base:=by
 intro n;induction n with
 |zero=>refine⟨U,Y,λfi x l o M j B=>?_,zfL Pg 0,e.cls,λc m fi h=>zj9 (zeP (e.mth c m fi h)),λc fi j h=>zka (zeP (e.ini c fi j h)),λx m fi h=>zkb (zeP (e.cmd x m fi h)),λ_=>e.cln,e.isa⟩;rcases hd fi x l o M with z|z;obtain⟨F,C,st,dV,f,q,N,i,G,L,S,ck,t,hn,y,a⟩:=z.ex;refine⟨f,q,_,⟨λI H Q E h=>zde i t h,λA g s H args us I Q E hr e0 b v h=>?_⟩,y,L.kp,a j B,Vals.nons j⟩;obtain⟨ι,S,ds,r,hh,w⟩:=h;exact w.elim;obtain⟨F,p,f,q,i,G,t,y,O,a,ok⟩:=z.ex;refine⟨f,q,_,⟨λI H Q E h=>zde i t h,λA g s H args us I Q E hr e0 b v h=>?_⟩,y,O,a j B,Vals.nons j⟩;obtain⟨ι,S,ds,r,hh,w⟩:=h;exact w.elim
 |succ n J=>
  refine⟨U,Y,λfi x l o M j B=>?_,zfL Pg (n+1),e.cls,λc m fi h=>zj9 (zeQ J (e.mth c m fi h)),λc fi j h=>zka (zeQ J (e.ini c fi j h)),λx m fi h=>zkb (zeQ J (e.cmd x m fi h)),λ_=>e.cln,e.isa⟩;rcases hd fi x l o M with z|z;obtain⟨F,C,st,dV,f,q,N,i,G,L,S,ck,t,hn,y,a⟩:=z.ex;refine⟨f,q,_,?_,y,L.kp,a j B,Vals.nons j⟩;exact zkm J L i S ck t hn G;obtain⟨F,p,f,q,i,G,t,y,O,a,ok⟩:=z.ex;refine⟨f,q,_,?_,y,O,a j B,Vals.nons j⟩;by_cases c:3<=n;exact(ok n c J).mono (by lia)
  . refine⟨λI H Q E h=>zde i t h,λA g s H args us I Q E hr e0 b v h=>?_⟩;obtain⟨ι,S,ds,r,hh,w⟩:=h;cases p<;>(simp only[callF,i,G,c,if_false]at w;split at w<;>exact w.elim)
def AllAtG{b:Type}(P:Nat->b->Prop):Nat->List b->Prop
 |_,[]=>True|k,a::r=>P k a/\AllAtG P (k+1) r
theorem zmK{P}:∀{l:List c}{k:Nat},AllAtG P k l->∀(i:Nat)(a:c),l[i]?=Φ a->P (k+i) a
 | [],_,_,i,a,h=>by simp at h|b::r,k,q,0,a,h=>by cases h;exact q.1| b::r,k,q,i+1,a,h=>by
  have:=zmK q.2 i a (by simpa using h)
  rwa [Nat.add_right_comm]at this
theorem AllAt.get{P:Nat->b->Prop}{l:List b}(q:AllAtG P 0 l)(i)(a)(h:l[i]?=Φ a):P i a:=zero_add i▸zmK q i a h
def AllInG{b:Type}(P:b->Prop):List b->Prop
 | []=>True|a::r=>P a/\AllInG P r
theorem AllIn.get[BEq α][LawfulBEq α]{P}:∀{l:List α},AllInG P l->∀a,l.contains a=Γ->P a
 | [],_,a,h=>by simp at h| b::r,q,a,h=>by rw[List.contains_cons,or_eq_true]at h;rcases h with h|h;rw[eq_of_beq h];exact q.1;exact AllIn.get q.2 a h
theorem zn8{ns:List Int}(c:FixL K H a (ns.map V.int))(f:TB H)(b:W (callF Pg k fi [.fix (ns.map .int)] ⟨[],[],[]⟩) λd _=>d=.bl Γ):spF K (callF Pg k) fi [.ref a] H (λv _=>v=.bl Γ) λ_ _ _=>False:=by
 refine⟨[],⟨[],[],[]⟩,[.fix (ns.map .int)],⟨.ref a,[],rfl,⟨a,_,rfl,c,RVs.ints ns⟩,rfl⟩,⟨rfl,List.nodup_nil,λl o e=>(by simp[St.get]at e),f⟩,?_⟩;obtain⟨d,h,e,q⟩:=ziv b;rw[e];intro v i g x r j;subst q;exact r
theorem law_sp{ns:List Int}(e:Mks.ts=[])(f:Only H)(g:SqL K H a (ns.map V.int))(b:W (callF Pg k fi [.fix (ns.map .int)] ⟨[],[],[]⟩) λd _=>d=.bl Γ):spF K (callF Pg k) fi [.ref a] H (λv _=>v=.bl Γ) λ_ _ _=>False:=by
 refine zn8 ?_ (λp c=>by rw[e]at c;cases c) b;rcases g with (h|⟨o,h⟩)|h;rcases f a with z|⟨o,i,z⟩;rw[z]at h;exact nS h;rw[z]at h;cases h;exact .inl ⟨o,h⟩;exact .inr h
end
noncomputable def okD(T:Tab)(F:Fn)(N a:List Str)(st:Stmt):Bool:=
 decide ((zad st).kind=.function)&&(!(zad st).isCoroutine&&(!(zad st).isGenerator&&(decide N.Nodup&&(decide (N.take a.length=a)&&(a.all (λx=>decide ((zad st).names.lookup x=Φ .local)||decide ((zad st).names.lookup x=Φ .cell)) &&
  ((zad st).names.all (λy=>decide (y.2≠.free))&&(chkS T F.body N (zad st) (zar st)&&(decide (F.np=a.length)&&(decide (F.nn=N.length)&&(F.prim.isNone&&decide (N≠T.lam)))))))))))
structure OkD(T:Tab)(Pg:List Fn)(fi:Nat)(x q:Str)(ps:List Str)(st:Stmt):Prop where
 ex:∃(F:Fn) (N:List Str),Pg[fi]?=Φ F/\F.prim=Ψ/\FnScope N ps (zad st)/\ChkD T F.body N (zad st) (zar st)/\F.np=ps.length/\F.nn=N.length
 bd:∀(kV doc pm:Λ)(an:Option Addr)(cdv ct:Λ)(us:List Λ),us.length=ps.length->bindArgs (fnOf x q (zaE st) (zar st) (zad st) .none kV doc pm an cdv ct) ⟨us,[]⟩=pure (ps.zip us)
theorem zap{st}(N)(e:Pg[fi]?=Φ F)(h:okD T F N ps st=Γ)(b:∀(kV doc pm:Λ)(an:Option Addr)(cdv ct:Λ)(us:List Λ),us.length=ps.length->bindArgs (fnOf x q (zaE st) (zar st) (zad st) .none kV doc pm an cdv ct) ⟨us,[]⟩=pure (ps.zip us)):OkD T Pg fi x q ps st:=by
 simp only[okD,Α,not_eq_true',decide_eq_true_eq,all_eq_true,or_eq_true,Option.isNone_iff_eq_none]at h;obtain⟨h1,h2,h3,h4,h5,h6,h7,h8,h9,h10,h11,h12⟩:=h;exact⟨⟨F,N,e,h11,⟨h1,h2,h3,h4,h5,h6,h7⟩,⟨h8,h12⟩,h9,h10⟩,b⟩
theorem AllInG.cons{b:Type}{P:b->Prop}{a:b}{r:List b}(h:P a)(t:AllInG P r):AllInG P (a::r):=⟨h,t⟩
theorem AllAtG.cons{b:Type}{P:Nat->b->Prop}{k:Nat}{a:b}{r:List b}(h:P k a)(t:AllAtG P (k+1) r):AllAtG P k (a::r):=⟨h,t⟩
theorem AllInG.mem:∀{l:List c},AllInG P l->∀a∈l,P a
 |b::r,q,a,h=>by rcases mem_cons.mp h with rfl|h;exact q.1;exact AllInG.mem q.2 a h
section
variable{P:Τ}{w:ϐ}{K:Frag}{h base:Heap}{mg:Str->Option Λ}{T:Tab}{Pg:List Fn}{fi c:Nat}{x q m:Str}{ps:List Str}{st:Stmt}{f C:Addr}{oc kV dc pm cd ct:Λ}{od an:Option Addr}{sl:Array (Option Λ)}
theorem dOk(X:K.In h)(G:h.Ns mainGlobals mg)(o:OkD T Pg fi x x ps st)(a:nsIn K mainGlobals x=Φ (Φ (.ref f)))(l:K.lookup f=Φ ⟨oc,od,.func (fnOf x x (zaE st) (zar st) (zad st) .none kV dc pm an cd ct),sl⟩)(c:codeIn K cd x=Γ)
  (k:keepIn K (.ref f)=Γ):DefOk K mg T Pg fi x ps 0\/PrimOk P w K mg base T Pg fi x ps 0:=by
 obtain⟨F,N,d,e,g,i,n,p⟩:=o.ex;have b:=ze0 (st:=st) l c k;exact .inl ⟨⟨F,x,st,_,f,_,N,d,e,b,g,i,n,p,mg_of X G a,λj r=>(Nat.le_zero.mp r).symm▸b.binds o.bd⟩⟩
def ClAt(K:Frag)(mg:Str->Option Λ)(T:Tab)(c:Nat)(x:Str):Prop:=∃C,Mks.cl[c]?=Φ C/\Cls K C/\mg x=Φ (.ref C)/\∀f,T.flds.contains f=Γ->NoAttr K C f
theorem clOk(X:K.In h)(G:h.Ns mainGlobals mg)(e:Mks.cl[c]?=Φ C)(a:nsIn K mainGlobals x=Φ (Φ (.ref C)))(b:plainGet K C Str.empty=Γ)(hd:hasDictIn K C=Γ)(d:plainOver K C=Γ)
  (g:findIn K (.ref C) "__setattr__"=Φ (Φ (.builtin "object.__setattr__"))) (n:AllInG (λf=>findIn K (.ref C) f=Φ Ψ) T.flds):ClAt K mg T c x:=
 ⟨C,e,⟨b,hd,d,g⟩,mg_of X G a,AllIn.get n⟩
theorem mOk0(o:OkD T Pg fi m q ps st)(l:K.lookup f=Φ ⟨oc,od,.func (fnOf m q (zaE st) (zar st) (zad st) .none kV dc pm an cd ct),sl⟩)(b:codeIn K cd q=Γ)(k:keepIn K (.ref f)=Γ)(e:d f):MOk K T Pg fi 0 d:=by obtain⟨F,N,g,i,j,n,p,r⟩:=o.ex;have a:=ze0 l b k;exact⟨⟨F,m,q,st,_,f,_,N,ps,g,i,a,j,n,p,r,a.binds o.bd,e⟩⟩
theorem mOk(b:AllAtG (ClAt K mg T) 0 T.cls)(o:OkD T Pg fi m q ps st)(e:Mks.cl[c]?=Φ C)(ex:T.cls[c]?=Φ x)(t:findIn K (.ref C) m=Φ (Φ (.ref f)))(l:K.lookup f=Φ ⟨oc,od,.func (fnOf m q (zaE st) (zar st) (zad st) .none kV dc pm an cd ct),sl⟩)
  (d:codeIn K cd q=Γ) (k:keepIn K (.ref f)=Γ) (i:isFn K (.ref f)=Γ):MOk K T Pg fi 0 (ExM K c m):=by
 obtain⟨g,a,j,_⟩:=AllAt.get b c x ex;exact mOk0 o l d k ⟨g,a,j,by rw[e]at a;cases a;exact⟨t,i,k⟩⟩
theorem iOk(o:OkD T Pg fi "__init__" q ps st)(e:Mks.cl[c]?=Φ C)(mk:makesIn K C=Γ)(t:findIn K (.ref C) "__init__"=Φ (Φ (.ref f)))(a:keepIn K (.ref C)=Γ)(l:K.lookup f=Φ ⟨oc,od,.func (fnOf "__init__" q (zaE st) (zar st) (zad st) .none kV dc pm an cd ct),sl⟩)
 (b:codeIn K cd q=Γ) (k:keepIn K (.ref f)=Γ) (i:isFn K (.ref f)=Γ):MOk K T Pg fi 0 (ExI K c):=mOk0 o l b k ⟨C,e,mk,t,i,a⟩
def IsAt(K:Frag)(mg:Str->Option Λ)(z:Str×List Nat):Prop:=∃D,mg z.1=Φ (.ref D)/\∀c C,Mks.cl[c]?=Φ C->IsaOk K C/\kitOne K (.ref C) (.ref D)=Φ (z.2.contains c)
def CoAt(K:Frag)(z:Str×D):Prop:=∃i t,z.2=.int i/\nsIn K mainGlobals z.1=Φ (Φ (.int i t))
theorem coOk(a:nsIn K mainGlobals x=Φ (Φ (.int i t))):CoAt K (x,.int i):=⟨i,t,rfl,a⟩
end
structure OkL(T:Tab)(Pg:List Fn)(fi:Nat)(x:Str)(ps:List Str)(nd:Nat)(st:Stmt):Prop where
 ex:∃F:Fn,Pg[fi]?=Φ F/\F.prim=Φ .lam/\FnScope T.lam ps (zad st)/\chkS T F.body T.lam (zad st) (zar st)=Γ/\F.np=ps.length/\F.nn=T.lam.length
structure OkE(T:Tab)(Pg:List Fn)(fi:Nat)(ps:List Str)(st:Stmt):Prop where
 ex:∃(F:Fn) (N:List Str),Pg[fi]?=Φ F/\F.prim=Ψ/\FnScope N ps (zad st)/\ChkD T F.body N (zad st) (zar st)/\F.np=ps.length/\F.nn=N.length
theorem zmn{st}(N)(e:d[fi]?=Φ F)(h:okD T F N f st=Γ):OkE T d fi f st:=by simp only[okD,Α,not_eq_true',decide_eq_true_eq,all_eq_true,or_eq_true,Option.isNone_iff_eq_none]at h;obtain⟨g,i,j,k,l,m,n,o,p,a,b,c⟩:=h;exact⟨F,N,e,b,⟨g,i,j,k,l,m,n⟩,⟨o,c⟩,p,a⟩
theorem iOkD{K}{st}{oc kV dc pm cd ct xc}(o:OkE T Pg fi ps st)(hn:ps.length=n+j)(h:∀(d:Addr)(kV doc pm:Λ)(an:Option Addr)(cdv ct:Λ)(us:List Λ),us.length=n->∃k,bindArgs (fnOf "__init__" q (zaE st) (zar st) (zad st) (.ref d) kV doc pm an cdv ct) ⟨us,[]⟩=seqItems? (.ref d)>>=k/\k (Φ items)=pure (ps.zip (us++List.replicate j Λ.none)))(e:Mks.cl[c]?=Φ C)(mk:makesIn K C=Γ)(t:findIn K (.ref C) "__init__"=Φ (Φ (.ref f)))(kc:keepIn K (.ref C)=Γ)(l:K.lookup f=Φ ⟨oc,od,.func (fnOf "__init__" q (zaE st) (zar st) (zad st) (.ref d) kV dc pm an cd ct),sl⟩)(cc:codeIn K cd q=Γ)(k:keepIn K (.ref f)=Γ)(i:isFn K (.ref f)=Γ)(ed:K.lookup d=Φ ⟨xc,xd,.seq items xn,xs⟩):MOk K T Pg fi j (ExI K c):=by
 obtain⟨F,N,h1,h2,h3,h4,h5,h6⟩:=o.ex;have FV:=ze0 l cc k;exact⟨⟨F,"__init__",q,st,_,f,_,N,ps,h1,h2,FV,h3,h4,h5,h6,zq2 n (by rw[length_replicate];exact hn) FV ed (h d),C,e,mk,t,i,kc⟩⟩
theorem all_of0{l:PySem.W.OpenLaw}{K}{st}{E kV z A u ct}(X:K.In h)(G:h.Ns mainGlobals g)(y:g "law"=Φ (.ref H))(o:OkD T p fi "law" "law" [B] st)(I:Mks.cl.length<=T.cls.length)(r:AllAtG (ClAt K g T) 0 T.cls)(J:AllInG (λx=>nsIn K mainGlobals x=Φ Ψ) T.blt)(L:AllInG (CoAt K) T.cons)(hd:∀base:Heap,AllAtG (λfi q=>DefOk K g T p fi q.1 q.2.1 q.2.2\/PrimOk l.prog w K g base T p fi q.1 q.2.1 q.2.2) 0 T.fns)(M:AllAtG (ClAt K g T) 0 T.cls->AllInG (λq=>MOk K T p q.2.2 0 (ExM K q.1 q.2.1)) T.mts)(O:AllInG (λq=>MOk K T p q.2.1 q.2.2 (ExI K q.1)) T.inits)(b:AllInG (λq=>MOk K T p q.2.2 0 (ExC K g q.1 q.2.1)) T.cms)(Q:AllInG (IsAt K g) T.isas)(a:nsIn K mainGlobals "law"=Φ (Φ (.ref f)))(U:K.lookup f=Φ ⟨E,od,.func (fnOf "law" "law" (zaE st) (zar st) (zad st) .none kV z A Y u ct),sl⟩)(c:codeIn K u "law"=Γ)(k:keepIn K (.ref f)=Γ):
  ∃C:FuncData,(∀(s:Η)(v:Λ),BindsTo s C ⟨[v],[]⟩ [(B,v)])/\∀base:Heap,K.In base->base.Ns mainGlobals g->FnOk l.prog w K g base CX0 (2*n+2) H C [B] (spF K (callF p (n+1)) fi):=by
 have e:=y.symm.trans (mg_of X G a);cases e;obtain⟨F,N,h1,h2,h3,h4,h5,h6⟩:=o.ex;refine⟨fnOf "law" "law" (zaE st) (zar st) (zad st) .none kV z A Y u ct,λs v=>.of_eq (o.bd _ _ _ _ _ _ [v] rfl),λbase _ _=>?_⟩;refine zkm (zo2 (λx b=>PySem.W.mg_none_of X G (AllIn.get J x b)) (λx d b=>?_) (λfi x ps nd hf=>AllAt.get (hd base) fi _ hf)
  ⟨AllAt.get r,λc m fi b=>AllIn.get (M r) (c,m,fi) b,λc fi j b=>AllIn.get O (c,fi,j) b,λx m fi h=>AllIn.get b (x,m,fi) h,I,λx cs b=>AllIn.get Q (x,cs) b⟩ n) (ze0 U c k) h1 h3 h4 h5 h6 h2
 obtain⟨i,t,e,q⟩:=L.mem (x,d) (PySem.mem_of_lookup b);cases(show d=.int i from e);exact⟨rfl,_,mg_of X G q,⟨_,rfl⟩⟩
end R
namespace R
noncomputable def oD:Option Int->D|some i=>.int i|none=>.non
open PySem (PyData)
theorem zeS{c d:Type}{f}:∀{xs:List c}{ys:List d},xs.mapM f=Φ ys->∀y∈ys,∃x∈xs,f x=Φ y
 | [],ys,h,y,a=>by simp at h;subst h;cases a
 |x::xs,ys,h,y,a=>by
  rw[mapM_cons]at h;cases e:f x with
  |none=>rw[e]at h;exact nS h
  |some z=>
   rw[e]at h;cases b:xs.mapM f with
   |none=>rw[b]at h;exact nS h
   |some j=>rw[b]at h;injection h with h;subst h;rcases mem_cons.mp a with rfl|a;exact⟨x,by simp,e⟩;obtain⟨u,g,i⟩:=zeS b y a;exact⟨u,by simp[g],i⟩
theorem zcn:∀{xs:List PyData},(∀x∈xs,PyData.eqv x x=Γ)->PyData.eqvAll xs xs=Γ
 | [],_=>by simp[PyData.eqvAll]|x::xs,h=>by simp[PyData.eqvAll,h x (by simp),zcn (xs:=xs) λy a=>h y (by simp[a])]
theorem znR:∀{n:Nat}{d:D}{a:PyData},pd S n d=Φ a->PyData.eqv a a=Γ:=by
 intro n;induction n with
 |zero=>
  intro d a h;cases d<;>simp only[pd]at h
  cases h;simp[PyData.eqv];cases h;simp[PyData.eqv];cases h;simp[PyData.eqv];split at h;cases h;simp[PyData.eqv];exact nS h;exact nS h;exact nS h;exact nS h
 |succ n g=>
  intro d a h;cases d<;>simp only[pd]at h
  cases h;simp[PyData.eqv];cases h;simp[PyData.eqv];cases h;simp[PyData.eqv];split at h;cases h;simp[PyData.eqv];exact nS h;rename_i b;cases e:b.mapM (pd S n) with
  |none=>rw[e]at h;exact nS h
  |some i=>rw[e]at h;cases h;exact zcn λx c=>let ⟨d,_,f⟩:=zeS e x c;g f
  split at h;rename_i b _;cases e:b.mapM (pd S n) with
  |none=>rw[e]at h;exact nS h
  |some i=>rw[e]at h;cases h;exact zcn λx c=>let ⟨d,_,f⟩:=zeS e x c;g f
  exact nS h;exact nS h
theorem zqW(b:pd S 60 x=Φ a)(c:pd S 60 y=Φ a):eqD S x y=Φ Γ:=by unfold eqD;rw[b,c];exact congrArg Φ (znR b)
theorem zag(S:St)(o):(S.push o).get S.len=Φ o:=by
 have h:¬S.len<S.frz.length:=by unfold St.len;lia
 unfold St.get St.push;simp only[h,if_false];unfold St.len;simp
theorem zae{S:St}(e:S.get l=Φ u):(S.push o).get l=Φ u:=by have h:=get_lt e;unfold St.len at h;unfold St.get at e⊢;unfold St.push;simp only;split;rename_i c;rw[if_pos c]at e;exact e;rename_i c;rw[if_neg c]at e;rw[getElem?_append_left (by omega)];exact e
theorem zeK{S:St}(o)(c:S.frz.length<=l)(a:S.lk.contains l=Δ):∃S',S.put l o=Φ S'/\S'.frz=S.frz/\S'.lk=S.lk/\S'.len=S.len/\(∀m,m≠l->S'.get m=S.get m)/\(l<S.len->S'.get l=Φ o):=by refine⟨{S with new:=S.new.set (l-S.frz.length) o},?_,rfl,rfl,by simp[St.len],λm d=>?_,λb=>?_⟩;unfold St.put;rw[if_neg (by lia),a];rfl;unfold St.get;split;rfl;rw[getElem?_set_ne (by lia)];unfold St.len at b;unfold St.get;simp only[show ¬l<S.frz.length by lia,if_false];rw[getElem?_set_self (by lia)]
theorem zov(S)(i j):eqD S (.int i) (.int j)=Φ (i==j):=by unfold eqD;have e:∀k,pd S 60 (.int k)=Φ (.int k):=λk=>rfl;show Φ (PyData.eqv (.int i) (.int j))=_;rw[L2.eqv_int]
theorem zhk(S)(x):∀ks:List Int,inD S (.int x) (ks.map .int)=Φ (decide (x∈ks)):=by
 intro ks;have e:(ks.map D.int).mapM (λz=>eqD S z (.int x))=Φ (ks.map λk=>k==x):=by induction ks with|nil=>rfl|cons k ks ih=>rw[ϋ,mapM_cons,ih];rfl
 have f:∀ks:List Int,((ks.map λk=>k==x).any id)=decide (x∈ks):=by intro ks;induction ks with|nil=>rfl| cons k ks ih=>rw[ϋ,any_cons,ih];by_cases c:k=x;subst c;simp;have c':¬x=k:=λz=>c z.symm;have b:=beq_eq_false_iff_ne.mpr c;simp only[b,id,Bool.false_or,mem_cons,c',false_or]
 unfold inD;rw[e];exact congrArg Φ (f ks)
theorem zmz{ks:List Int}(h:S.get l=Φ (.lst (ks.map .int)))(x):cmpO S .In (.int x) (.ref l)=Φ (decide (x∈ks)):=by
 show zfJ S (.int x) (.ref l)=_;unfold zfJ;have h3:d3K S (.ref l)=Ψ:=by unfold d3K;dsimp only;rw[h]
 rw[h3];show((match S.get l with|some (.lst ds)=>Φ ds|_=>Ψ).bind λys=>inD S (.int x) ys)=_;rw[h];exact zhk S x ks
theorem zfv{ks:List Int}(h:S.get l=Φ (.lst (ks.map .int)))(x):cmpO S .NotIn (.int x) (.ref l)=Φ (!decide (x∈ks)):=by show(cmpO S .In (.int x) (.ref l)).map (!·)=_;rw[zmz h];rfl
theorem zco{xs:List a}{k:Nat}{x:a}(h:xs[k]?=Φ x):R.atI xs (k:Int)=Φ x:=by
 have b:=(Β.mp h).1;have e:R.ixN xs.length (k:Int)=Φ k:=by simp[R.ixN,b]
 unfold R.atI;rw[e];exact h
theorem atI_0:R.atI (x::xs) 0=Φ x:=by
 have:R.ixN (x::xs).length 0=Φ 0:=by simp[R.ixN]
 unfold R.atI;rw[this];rfl
theorem zra:R.atI (x::y::xs) 1=Φ y:=by
 have:R.ixN (x::y::xs).length 1=Φ 1:=by simp[R.ixN];lia
 unfold R.atI;rw[this];rfl
noncomputable def zbP(ns:List Int)(k:Nat):Int:=match ns[k]? with|some v=>v%10^64|none=>0
theorem zba:∀ks:List Int,zaG (ks.map D.int)=Φ ks
 | []=>rfl| k::ks=>by unfold zaG;rw[ϋ,mapM_cons,show(ks.map D.int).mapM zeV=Φ ks from zba ks];rfl
end R
section
namespace Kz
local macro_rules|`(#[$x])=>`(.cons $x .nil)|`(#[$x,$y,*])=>`(.cons $x #[$y,*])
local macro_rules|`($x:ident)=>let s:=x.getId.toString;let n:=Lean.Syntax.mkNumLit (s.drop 1).toString;if s.length<2||!(s.drop 1).all Char.isDigit then Lean.Macro.throwUnsupported else if s.front=='J' then `(.loc $n) else if s.front=='U' then `(.con (.int $n)) else Lean.Macro.throwUnsupported
local macro_rules | `(tactic| left)=>`(tactic| conv=>whnf)
local macro_rules | `(tactic| right)=>`(tactic| refine R.wNeed_of (by first|decide|lia|(simp;done)|(simp;lia)) ?_)
section
open PySem R L2
noncomputable def zes:Fn:=⟨1,1,(.ret (.and (.bi (.isin "int") #[J0]) (.nt (.bi (.isin "bool") #[J0]))) .nil),Ψ⟩
noncomputable def zf2:Fn:=⟨2,2,(.ret (.and (.call 0 0 #[J0]) (.cmp2 .LtE .Lt U0 J0 J1)) .nil),Ψ⟩
noncomputable def zfZ:Fn:=⟨1,1,(.ret (.and (.call 0 0 #[J0]) (.cmp .Lt (.bi .abs #[J0]) (.bin .Pow U10 U60))) .nil),Ψ⟩
noncomputable def zet:Fn:=⟨3,3,(.ifS (.or (.nt (.tst (.call 0 0 #[J0]))) (.nt (.cmp2 .LtE .LtE J1 J0 J2)))
 .stop .nil (.ret J0 .nil)),Ψ⟩
noncomputable def zf3:Fn:=⟨2,2,(.ifS (.nt (.tst (.call 1 0 #[J0,J1])))
 .stop .nil (.ret J0 .nil)),Ψ⟩
noncomputable def zfX:Fn:=⟨1,1,(.ifS (.nt (.tst (.call 2 0 #[J0])))
 .stop .nil (.ret J0 .nil)),Ψ⟩
noncomputable def zf1:Fn:=⟨2,2,(.ifS (.or (.nt (.tst (.bi (.isin "tuple") #[J0]))) (.nt (.cmp2 .LtE .LtE U1 (.bi .len #[J0]) U7))) (.ret (.con (D.bl Δ)) .nil) .nil (.ifS (.nt (.tst (.all (.comp 1 [1] [0] (.val J0) (.tst (.con (D.bl Γ))) (.call 1 0 #[J0,J1]))))) (.ret (.con (D.bl Δ)) .nil) .nil (.ret (.cmp .Eq (.lenset (.val J0)) (.bi .len #[J0])) .nil))),Ψ⟩
noncomputable def zcC:Fn:=⟨2,3,(.ifS (.cmp .Is J1 (.con D.non)) (.ret (.tup .nil) .nil) .nil (.asg 2 (.mkL (.comp 1 [0] [0] (.val J1) (.tst (.con (D.bl Γ))) (.call 4 0 #[J0,J1]))) (.ret (.mkT (.val (.sset J2))) .nil))),Ψ⟩
noncomputable def zcW:Fn:=⟨2,4,(.ifS (.cmp .Is J1 (.con D.non)) (.ret (.tup .nil) .nil) .nil (.forS [2,3] (.enum J1) (.ifS (.nt (.tst (.call 9 0 #[J3,J0])))
 .stop .nil .nil) (.ret (.mkT (.val J1)) .nil))),Ψ⟩
noncomputable def zhB:Fn:=⟨2,2,(.ifS (.or (.nt (.tst (.bi (.isin "tuple") #[J0]))) (.cmp .NotEq (.bi .len #[J0]) U4)) (.ret (.con (D.bl Δ)) .nil) .nil (.ifS (.or (.nt (.tst (.call 10 0 #[.ix J0 U0]))) (.nt (.tst (.call 6 0 #[.ix J0 U1,J1])))) (.ret (.con (D.bl Δ)) .nil) .nil (.ifS (.or (.nt (.tst (.call 1 0 #[.ix J0 U2,J1]))) (.cmp .In (.ix J0 U2) (.ix J0 U1))) (.ret (.con (D.bl Δ)) .nil) .nil (.ret (.or (.cmp .Is (.ix J0 U3) (.con D.non)) (.call 2 0 #[.ix J0 U3])) .nil)))),Ψ⟩
noncomputable def zf0:Fn:=⟨1,1,(.ret (.and (.call 0 0 #[J0]) (.cmp2 .LtE .LtE U1 J0 U30)) .nil),Ψ⟩
noncomputable def zdS:Fn:=⟨2,2,(.ret (.ite (.cmp .Is J0 (.con D.non)) (.bin .Add J1 U1) (.call 3 0 #[J0,U1,U8])) .nil),Ψ⟩
noncomputable def zcE:Fn:=⟨2,2,(.ifS (.cmp .Lt J1 (.bi .len #[J0])) (.ret (.bin .Mod (.ix J0 J1) (.bin .Pow U10 U64)) .nil) .nil (.ret U0 .nil)),Ψ⟩
noncomputable def zfY:Fn:=⟨1,1,(.ret (.bin .Sub (.bin .Mod J0 (.bin .Sub (.bin .Mult U2 (.bin .Pow U10 U60)) U1)) (.bin .Sub (.bin .Pow U10 U60) U1)) .nil),Ψ⟩
noncomputable def zdT:Fn:=⟨2,5,(.asg 2 (.lst .nil) (.asg 3 (.bin .Add U5 (.bin .Mod J0 U400000009)) (.forS [4] (.rng1 J1) (.asg 3 (.bin .Mod (.bin .Add (.bin .Add (.bin .Mult J3 U7817) (.bin .Mult (.bin .Add J4 U3) (.bin .FloorDiv J3 U11))) U20011) U871349951) (.expr (.mt .append J2 #[.bin .FloorDiv J3 U13]) .nil)) (.ret J2 .nil)))),Ψ⟩
noncomputable def zer:Fn:=⟨3,8,(.asg 3 (.mkL (.rng1 J1)) (.asg 4 (.tup .nil) (.forS [5] (.rng1 (.bin .Add U1 (.bin .Mod (.bin .Mod J0 U7) (.bin .Sub J1 U1)))) (.asg 0 (.bin .FloorDiv J0 U7) (.asg 4 (.bin .Add J4 (.tup #[.mt .popAt J3 #[.bin .Mod (.bin .Mod J0 U7) (.bi .len #[J3])]])) .nil)) (.asg 0 (.bin .FloorDiv J0 U7) (.asg 6 (.ix J3 (.bin .Mod (.bin .Mod J0 U7) (.bi .len #[J3]))) (.asg 0 (.bin .FloorDiv J0 U7) (.asg 7 (.ix (.lst #[.bi .len #[J4],.bin .Add U1 (.bin .Mod (.bin .FloorDiv J0 U2) U30)]) (.bin .Mod J0 U2)) (.ret (.tup #[J7,J4,J6,.ix (.bin .Add J2 (.lst #[.con D.non])) (.bin .Mod (.bin .FloorDiv J0 U60) U5)]) .nil)))))))),Ψ⟩
noncomputable def c_law_lie:Fn:=⟨5,11,(.ifS (.cmp .Eq (.bin .Mod J0 U2) U1) (.ret (.call 15 0 #[.bin .FloorDiv J0 U2,J1,J4]) .nil) .nil (.asg 5 (.call 14 0 #[.bin .FloorDiv J0 U2,U6]) (.asg 6 (.tup #[.bin .Mod (.bin .Add J2 (.ix (.lst #[U0,U0,U0,.ix J5 U2]) (.bin .Mod (.bin .FloorDiv (.ix J5 U0) U64) U4))) J1]) (.asg 7 (.ix J4 (.bin .Mod (.ix J5 U0) U4)) (.ifS (.and (.cmp .Gt (.bi .len #[J3]) U0) (.cmp .Gt (.bin .Mod (.ix J5 U1) U4) U0)) (.asg 8 (.ix J3 (.bin .Mod (.ix J5 U2) (.bi .len #[J3]))) (.asg 6 (.ix J8 U1) (.asg 7 (.ix J8 U3) (.ifS (.and (.cmp .Gt (.bin .Mod (.ix J5 U1) U4) U1) (.cmp .Lt (.bin .Add (.bi .len #[J6]) U1) J1)) (.asg 6 (.bin .Add J6 (.tup #[.ix J8 U2])) .nil) .nil .nil)))) .nil (.ifS (.and (.cmp .Eq (.bin .Mod (.ix J5 U3) U2) U1) (.cmp .Lt (.bin .Add (.bi .len #[J6]) U1) J1)) (.asg 9 (.mkL (.comp 1 [6] [0] (.rng1 J1) (.cmp .NotIn J0 J1) J0)) (.asg 6 (.bin .Add J6 (.tup #[.ix J9 (.bin .Mod (.bin .FloorDiv (.ix J5 U3) U2) (.bi .len #[J9]))])) .nil)) .nil (.ifS (.cmp .Eq (.bin .Mod (.ix J5 U5) U16) U7) (.asg 6 (.slS J6 (.neg U1)) .nil) .nil (.asg 10 (.bi .len #[J6]) (.ifS (.cmp .Eq (.bin .Mod (.bin .FloorDiv (.ix J5 U5) U16) U8) U3) (.asg 10 (.bin .Add U1 (.bin .Mod (.bin .FloorDiv (.ix J5 U5) U128) U30)) .nil) .nil (.ifS (.cmp .Eq (.bin .Mod (.bin .FloorDiv (.ix J5 U0) U4) U16) U5) (.asg 7 (.con D.non) .nil) .nil (.asg 9 (.mkL (.comp 1 [6] [0] (.rng1 J1) (.cmp .NotIn J0 J1) J0)) (.ret (.tup #[J10,J6,.ix J9 (.bin .Mod (.ix J5 U4) (.bi .len #[J9])),J7]) .nil)))))))))))),Ψ⟩
noncomputable def zeq:Fn:=⟨4,6,(.asg 4 (.lst .nil) (.ifS (.cmp .Gt J1 U1) (.forS [5] (.val J0) (.expr (.mt .append J4 #[.call 16 0 #[.bin .Mod J5 (.bin .Pow U10 U64),J1,J2,J4,J3]]) .nil) .nil) .nil (.ret J4 .nil))),Ψ⟩
noncomputable def zep:Fn:=⟨2,4,(.asg 2 (.lst .nil) (.forS [3] (.rng1 J1) (.ifS (.cmp .Eq (.bin .Mod J0 U3) U0) (.expr (.mt .append J2 #[J3]) .nil) .nil (.asg 0 (.bin .FloorDiv J0 U3) .nil)) (.ret J2 .nil))),Ψ⟩
noncomputable def zcD:Fn:=⟨1,6,(.asg 1 (.bin .Add U1 (.bin .Mod (.call 12 0 #[J0,U0]) U7)) (.asg 2 (.call 18 0 #[.call 12 0 #[J0,U1],J1]) (.asg 3 (.bin .Mod (.call 12 0 #[J0,U2]) J1) (.asg 4 (.lst #[.call 13 0 #[.call 12 0 #[J0,U3]],.call 13 0 #[.call 12 0 #[J0,U4]],U0,.bin .Sub (.bin .Mod (.call 12 0 #[J0,U4]) U5) U2]) (.asg 5 (.call 17 0 #[.sl J0 Γ Γ U5 U62,J1,J3,J4]) (.ret (.tup #[J1,.bin .Mod (.bin .FloorDiv (.call 12 0 #[J0,U0]) U7) U6,J2,J3,.ix J4 (.bin .Mod (.bin .FloorDiv (.call 12 0 #[J0,U2]) U7) U4),J5]) .nil)))))),Ψ⟩
noncomputable def zbR:Fn:=⟨2,3,(.asg 2 (.bin .FloorDiv (.call 12 0 #[J0,U2]) U28) (.ifS (.cmp .Eq (.bin .Mod J2 U2) U0) (.ret (.tup #[.con D.non,.bin .Add J1 U1]) .nil) .nil (.ret (.tup #[.bin .Add U1 (.bin .Mod (.bin .FloorDiv J2 U2) U8),.bin .Add U1 (.bin .Mod (.bin .FloorDiv J2 U2) U8)]) .nil))),Ψ⟩
noncomputable def c_law_first:Fn:=⟨4,12,(.asg 4 .dnew3 (.forS [5] (.rng1 J1) (.ifS (.cmp .NotIn J5 J2) (.forS [6,7] (.val (.meth "kept" [(1,29)] J0 #[J5])) (.setIx J4 (.tup #[J5,J7,J6]) (.bin .Add (.bi .len #[J7]) U1) .nil) .nil) .nil .nil) (.forS [8,7,9,6] (.val J3) (.ifS (.cmp .IsNot J6 (.con D.non)) (.forS [10] (.rng1 (.bi .len #[J7])) (.ifS (.cmp .In (.ix J7 J10) J2) (.asg 11 (.tup #[.ix J7 J10,.sl J7 Δ Γ (.con .non) J10,J6]) (.setIx J4 J11 (.bi .min2 #[.dget3 J4 J11 J8,J8]) .nil)) .nil .nil) .nil) .nil .nil) (.ret J4 .nil)))),Ψ⟩
noncomputable def c_law:Fn:=⟨1,17,(.asgT [1,2,3,4,5,6] (.call 19 0 #[J0]) (.asgT [7,8] (.call 20 0 #[J0,J2]) (.asg 9 (.mk 1 27 "Signed" 0 #[.mk 2 34 "Setting" 0 #[J1,J2,.mkL (.val J3),.mkL (.val J6)],J4,J5,J7]) (.asg 10 (.call 21 0 #[J9,J1,J3,J6]) (.forS [11,12,13,14,15] (.val (.meth "letters" [(1,30)] J9 .nil)) (.asg 16 (.all (.comp 1 [11,10,14,12] [0] (.rng1 (.bi .len #[J12])) (.tst (.con (D.bl Γ))) (.cmp .LtE (.dget3 J2 (.tup #[.ix J4 J0,.sl J4 Δ Γ (.con .non) J0,J3]) U99) J1))) (.ifS (.or (.nt (.tst (.bi (.isin "bool") #[J15]))) (.or (.cmp .NotEq J15 J16) (.cmp .Gt J11 J8))) (.ret (.con (D.bl Δ)) .nil) .nil .nil)) (.ret (.con (D.bl Γ)) .nil)))))),Ψ⟩
noncomputable def zdU:Fn:=⟨1,1,(.setF J0 "made" .dnew3 .nil),Ψ⟩
noncomputable def zce:Fn:=⟨3,3,(.ret (.all (.comp 2 [2,0,1] [0,1] (.enum J1) (.tst (.con (D.bl Γ))) (.meth "has" [(0,25)] J3 #[J1,.sl J4 Δ Γ (.con .non) J0,J2]))) .nil),Ψ⟩
noncomputable def zeu:Fn:=⟨4,4,(.ret (.cmp .In (.tup #[J1,J2,J3]) (.fld J0 "made")) .nil),Ψ⟩
noncomputable def zcX:Fn:=⟨4,4,(.setIx (.fld J0 "made") (.tup #[J1,J2,J3]) (.con (D.bl Γ)) .nil),Ψ⟩
noncomputable def zbv:Fn:=⟨5,8,(.setF J0 "many" (.fld J1 "many") (.setF J0 "sender" (.call 4 0 #[J2,.fld J1 "many"]) (.asg 5 (.tup #[.call 5 0 #[J3],.tup .nil]) (.asg 6 (.call 11 0 #[J4,.fld J1 "bound"]) (.setF J0 "keeping" (.mkL (.comp 1 [2,5] [0] (.rng1 (.fld J1 "many")) (.tst (.con (D.bl Γ))) (.ite (.cmp .Eq J0 J1) (.lst #[J2]) (.lst .nil)))) (.setF J0 "book" (.mk 0 23 "Book" 0 .nil) (.setF J0 "sent" (.lst .nil) (.forS [7] (.rng2 U1 (.bin .Add J6 U1)) (.expr (.meth "play_round" [(1,31)] J0 #[J1,J7]) .nil) .nil)))))))),Ψ⟩
noncomputable def zcG:Fn:=⟨4,5,(.asg 4 (.ix (.fld J0 "keeping") J1) (.ifS (.and (.cmp .Lt (.bi .len #[J4]) U2) (.cmp .NotIn J2 (.mkL (.comp 1 [] [0] (.val J4) (.tst (.con (D.bl Γ))) (.ix J0 U0))))) (.expr (.mt .append J4 #[.tup #[J2,J3]]) .nil) .nil .nil)),Ψ⟩
noncomputable def zcF:Fn:=⟨2,2,(.ret (.mkL (.val (.ix (.fld J0 "keeping") (.call 4 0 #[J1,.fld J0 "many"])))) .nil),Ψ⟩
noncomputable def zbB:Fn:=⟨1,1,(.ret (.mkL (.val (.fld J0 "sent"))) .nil),Ψ⟩
noncomputable def zbc:Fn:=⟨3,8,(.asg 3 (.bin .Add (.meth "written_by_trues" [(1,33)] J0 #[J1,J2]) (.meth "written_by_lies" [(1,32)] J0 #[J1,J2])) (.forS [4,5,6] (.val (.ssetP J3)) (.asg 7 (.meth "genuine" [(0,24)] (.fld J0 "book") #[J4,J6]) (.expr (.mt .append (.fld J0 "sent") #[.tup #[J2,J4,J5,J6,J7]]) (.ifS (.and (.tst J7) (.and (.cmp .Eq (.bi .len #[J4]) J2) (.cmp .Eq (.ix J4 U0) (.fld J0 "sender")))) (.expr (.meth "keep" [(1,28)] J0 #[J5,J6,J4]) .nil) .nil .nil))) .nil)),Ψ⟩
noncomputable def zaK:Fn:=⟨3,9,(.asg 3 (.mkL (.comp 1 [2] [0] (.val (.fld J1 "lies")) (.and (.cmp .Eq (.ix J0 U0) J1) (.cmp .IsNot (.ix J0 U3) (.con D.non))) (.sl J0 Γ Δ U1 (.con .non)))) (.forS [4,5,6] (.val J3) (.forS [7,8] (.enum J4) (.ifS (.cmp .In J8 (.fld J1 "liars")) (.expr (.meth "stamp" [(0,26)] (.fld J0 "book") #[J8,.sl J4 Δ Γ (.con .non) J7,J6]) .nil) .nil .nil) .nil) (.ret J3 .nil))),Ψ⟩
noncomputable def zaI:Fn:=⟨3,8,(.asg 3 (.lst .nil) (.forS [4] (.val (.meth "trues" [(2,35)] J1 .nil)) (.forS [5,6] (.val (.ix (.fld J0 "keeping") J4)) (.ifS (.cmp .Eq (.bi .len #[J6]) (.bin .Sub J2 U1)) (.expr (.meth "stamp" [(0,26)] (.fld J0 "book") #[J4,J6,J5]) (.asg 7 (.bin .Add J6 (.tup #[J4])) (.expr (.ext J3 (.comp 1 [7,5] [0] (.rng1 (.fld J0 "many")) (.cmp .NotIn J0 J1) (.tup #[J1,J0,J2]))) .nil))) .nil .nil) .nil) (.ret J3 .nil))),Ψ⟩
noncomputable def zbm:Fn:=⟨5,5,(.setF J0 "many" (.call 3 0 #[J1,U1,U7]) (.setF J0 "bound" (.call 3 0 #[J2,U0,U5]) (.setF J0 "liars" (.call 7 0 #[J1,J3]) (.setF J0 "lies" (.call 8 0 #[J1,J4]) .nil)))),Ψ⟩
noncomputable def zbS:Fn:=⟨1,1,(.ret (.mkL (.comp 1 [0] [0] (.rng1 (.fld J0 "many")) (.cmp .NotIn J0 (.fld J1 "liars")) J0)) .nil),Ψ⟩
noncomputable def prog:List Fn:=[zes,zf2,zfZ,zet,zf3,zfX,zf1,zcC,zcW,zhB,zf0,zdS,zcE,zfY,zdT,zer,c_law_lie,zeq,zep,zcD,zbR,c_law_first,c_law,zdU,zce,zeu,zcX,zbv,zcG,zcF,zbB,zbc,zaK,zaI,zbm,zbS]
noncomputable def top(i:Nat):Stmt:=PySem.Challenge.pw_traitorround_k45_what_is_good.main.body.getD i (.Pass ⟨0,0,0,0⟩)
noncomputable abbrev zgp:Stmt:=top 8
noncomputable abbrev zhX:Stmt:=top 9
noncomputable abbrev zhU:Stmt:=top 10
noncomputable abbrev zgq:Stmt:=top 11
noncomputable abbrev zhY:Stmt:=top 12
noncomputable abbrev zhR:Stmt:=top 13
noncomputable abbrev zhW:Stmt:=top 16
noncomputable abbrev zdX:Stmt:=top 23
noncomputable abbrev zeH:Stmt:=top 24
noncomputable abbrev zjc:Stmt:=top 25
noncomputable abbrev zhV:Stmt:=top 26
noncomputable abbrev zfn:Stmt:=top 27
noncomputable abbrev zdZ:Stmt:=top 34
noncomputable abbrev zhT:Stmt:=top 35
noncomputable abbrev zfo:Stmt:=top 36
noncomputable abbrev zgo:Stmt:=top 37
noncomputable abbrev zhS:Stmt:=top 38
noncomputable abbrev zgn:Stmt:=top 39
noncomputable abbrev zgm:Stmt:=top 40
noncomputable abbrev zdY:Stmt:=top 41
noncomputable abbrev zeI:Stmt:=top 42
noncomputable abbrev zfp:Stmt:=top 43
noncomputable abbrev zpL:Stmt:=top 44
noncomputable def zcP(s:Stmt)(j:Nat):Stmt:=match s with|.ClassDef _ _ _ b _ _ _ _ _ _ _=>b.getD j (.Pass ⟨0,0,0,0⟩)|s=>s
noncomputable abbrev zfq:Stmt:=zcP (top 29) 0
noncomputable abbrev zds:Stmt:=zcP (top 29) 3
noncomputable abbrev zgr:Stmt:=zcP (top 29) 2
noncomputable abbrev zeJ:Stmt:=zcP (top 29) 1
noncomputable abbrev zd2:Stmt:=zcP (top 32) 0
noncomputable abbrev zd1:Stmt:=zcP (top 32) 4
noncomputable abbrev zd0:Stmt:=zcP (top 32) 6
noncomputable abbrev zcL:Stmt:=zcP (top 32) 5
noncomputable abbrev zb5:Stmt:=zcP (top 32) 1
noncomputable abbrev zbj:Stmt:=zcP (top 32) 3
noncomputable abbrev zbe:Stmt:=zcP (top 32) 2
noncomputable abbrev zdr:Stmt:=zcP (top 22) 0
noncomputable abbrev zc1:Stmt:=zcP (top 22) 1
noncomputable instance mks:R.Mks:={ts:=[],cl:=[260,337,180]}
noncomputable def tab:Tab:=⟨["abs","all","bool","enumerate","int","isinstance","len","list","min","range","set","sorted","tuple"],[("LONGEST",(D.int 7)),("MOST_HANDS",(D.int 7)),("GREATEST_BOUND",(D.int 5)),("LAST_TURN",(D.int 30)),("MOST_ROUNDS",(D.int 8)),("MOST_KEPT",(D.int 2))],("is_whole",["thing"],0)::("is_hand",["thing","many"],0)::("is_word",["thing"],0)::("count_of",["thing","least","greatest"],0)::("hand_of",["thing","many"],0)::("word_of",["thing"],0)::("is_path",["thing","many"],0)::("lying_among",["many","liars"],0)::("lies_among",["many","lies"],0)::("is_lie",["thing","many"],0)::("is_turn",["thing"],0)::("rounds_of",["told","bound"],0)::("_law_cell_at",["_law_script","_law_k"],0)::("_law_big",["_law_cell"],0)::("_law_mixed",["_law_cell","_law_many"],0)::("_law_free",["_law_number","_law_many","_law_words"],0)::("_law_lie",["_law_cell","_law_many","_law_sender","_law_told","_law_words"],0)::("_law_lies",["_law_cells","_law_many","_law_sender","_law_words"],0)::("_law_some",["_law_cell","_law_many"],0)::("_law_setting",["_law_script"],0)::("_law_rounds",["_law_script","_law_bound"],0)::("_law_first",["_law_play","_law_many","_law_liars","_law_lies_here"],0)::("law",["_law_script"],0)::[],["Book","Signed","Setting"],["many","bound","liars","lies","made","sender","keeping","book","sent"],[(0,"genuine",24),(0,"has",25),(1,"keep",28),(1,"kept",29),(1,"letters",30),(1,"play_round",31),(0,"stamp",26),(2,"trues",35),(1,"written_by_lies",32),(1,"written_by_trues",33)],[(1,27,0),(2,34,0),(0,23,0)],[],[],["lambda"],0⟩
theorem O20:OkD tab prog 0 "is_whole" "is_whole" ["thing"] zgp:=zap ["thing"] rfl (by decide +kernel) λ_ _ _ _ _ _=>usS λ_=>usZ rfl
theorem O28:OkD tab prog 1 "is_hand" "is_hand" ["thing","many"] zhX:=zap ["thing","many"] rfl (by decide +kernel) λ_ _ _ _ _ _=>usS λ_=>usS λ_=>usZ rfl
theorem O29:OkD tab prog 2 "is_word" "is_word" ["thing"] zhU:=zap ["thing"] rfl (by decide +kernel) λ_ _ _ _ _ _=>usS λ_=>usZ rfl
theorem O25:OkD tab prog 3 "count_of" "count_of" ["thing","least","greatest"] zgq:=zap ["thing","least","greatest"] rfl (by decide +kernel) λ_ _ _ _ _ _=>usS λ_=>usS λ_=>usS λ_=>usZ rfl
theorem O32:OkD tab prog 4 "hand_of" "hand_of" ["thing","many"] zhY:=zap ["thing","many"] rfl (by decide +kernel) λ_ _ _ _ _ _=>usS λ_=>usS λ_=>usZ rfl
theorem O27:OkD tab prog 5 "word_of" "word_of" ["thing"] zhR:=zap ["thing"] rfl (by decide +kernel) λ_ _ _ _ _ _=>usS λ_=>usZ rfl
theorem O31:OkD tab prog 6 "is_path" "is_path" ["thing","many"] zhW:=zap ["thing","many"] rfl (by decide +kernel) λ_ _ _ _ _ _=>usS λ_=>usS λ_=>usZ rfl
theorem O7:OkD tab prog 7 "lying_among" "lying_among" ["many","liars"] zdX:=zap ["many","liars","told"] rfl (by decide +kernel) λ_ _ _ _ _ _=>usS λ_=>usS λ_=>usZ rfl
theorem O14:OkD tab prog 8 "lies_among" "lies_among" ["many","lies"] zeH:=zap ["many","lies","place","thing"] rfl (by decide +kernel) λ_ _ _ _ _ _=>usS λ_=>usS λ_=>usZ rfl
theorem O34:OkD tab prog 9 "is_lie" "is_lie" ["thing","many"] zjc:=zap ["thing","many"] rfl (by decide +kernel) λ_ _ _ _ _ _=>usS λ_=>usS λ_=>usZ rfl
theorem O33:OkD tab prog 10 "is_turn" "is_turn" ["thing"] zhV:=zap ["thing"] rfl (by decide +kernel) λ_ _ _ _ _ _=>usS λ_=>usZ rfl
theorem O19:OkD tab prog 11 "rounds_of" "rounds_of" ["told","bound"] zfn:=zap ["told","bound"] rfl (by decide +kernel) λ_ _ _ _ _ _=>usS λ_=>usS λ_=>usZ rfl
theorem O11:OkD tab prog 12 "_law_cell_at" "_law_cell_at" ["_law_script","_law_k"] zdZ:=zap ["_law_script","_law_k"] rfl (by decide +kernel) λ_ _ _ _ _ _=>usS λ_=>usS λ_=>usZ rfl
theorem O26:OkD tab prog 13 "_law_big" "_law_big" ["_law_cell"] zhT:=zap ["_law_cell"] rfl (by decide +kernel) λ_ _ _ _ _ _=>usS λ_=>usZ rfl
theorem O18:OkD tab prog 14 "_law_mixed" "_law_mixed" ["_law_cell","_law_many"] zfo:=zap ["_law_cell","_law_many","_law_found","_law_number","_law_k"] rfl (by decide +kernel) λ_ _ _ _ _ _=>usS λ_=>usS λ_=>usZ rfl
theorem O21:OkD tab prog 15 "_law_free" "_law_free" ["_law_number","_law_many","_law_words"] zgo:=zap ["_law_number","_law_many","_law_words","_law_left","_law_path","_law_k","_law_to","_law_turn"] rfl (by decide +kernel) λ_ _ _ _ _ _=>usS λ_=>usS λ_=>usS λ_=>usZ rfl
theorem O30:OkD tab prog 16 "_law_lie" "_law_lie" ["_law_cell","_law_many","_law_sender","_law_told","_law_words"] zhS:=zap ["_law_cell","_law_many","_law_sender","_law_told","_law_words","_law_xs","_law_path","_law_word","_law_base","_law_off","_law_turn"] rfl (by decide +kernel) λ_ _ _ _ _ _=>usS λ_=>usS λ_=>usS λ_=>usS λ_=>usS λ_=>usZ rfl
theorem O24:OkD tab prog 17 "_law_lies" "_law_lies" ["_law_cells","_law_many","_law_sender","_law_words"] zgn:=zap ["_law_cells","_law_many","_law_sender","_law_words","_law_told","_law_cell"] rfl (by decide +kernel) λ_ _ _ _ _ _=>usS λ_=>usS λ_=>usS λ_=>usS λ_=>usZ rfl
theorem O22:OkD tab prog 18 "_law_some" "_law_some" ["_law_cell","_law_many"] zgm:=zap ["_law_cell","_law_many","_law_found","_law_hand"] rfl (by decide +kernel) λ_ _ _ _ _ _=>usS λ_=>usS λ_=>usZ rfl
theorem O10:OkD tab prog 19 "_law_setting" "_law_setting" ["_law_script"] zdY:=zap ["_law_script","_law_many","_law_liars","_law_sender","_law_words","_law_lies_here"] rfl (by decide +kernel) λ_ _ _ _ _ _=>usS λ_=>usZ rfl
theorem O13:OkD tab prog 20 "_law_rounds" "_law_rounds" ["_law_script","_law_bound"] zeI:=zap ["_law_script","_law_bound","_law_cell"] rfl (by decide +kernel) λ_ _ _ _ _ _=>usS λ_=>usS λ_=>usZ rfl
theorem O17:OkD tab prog 21 "_law_first" "_law_first" ["_law_play","_law_many","_law_liars","_law_lies_here"] zfp:=zap ["_law_play","_law_many","_law_liars","_law_lies_here","_law_first_here","_law_hand","_law_word","_law_path","_law_turn","_law_to","_law_k","_law_stamp"] rfl (by decide +kernel) λ_ _ _ _ _ _=>usS λ_=>usS λ_=>usS λ_=>usS λ_=>usZ rfl
theorem O35:OkD tab prog 22 "law" "law" ["_law_script"] zpL:=zap ["_law_script","_law_many","_law_bound","_law_liars","_law_sender","_law_word","_law_lies_here","_law_rounds_here","_law_last","_law_play","_law_first_here","_law_turn","_law_path","_law_to","_law_told","_law_good","_law_due"] rfl (by decide +kernel) λ_ _ _ _ _ _=>usS λ_=>usZ rfl
theorem O16:OkD tab prog 23 "__init__" "Book.__init__" ["self"] zfq:=zap ["self"] rfl (by decide +kernel) λ_ _ _ _ _ _=>usS λ_=>usZ rfl
theorem O6:OkD tab prog 24 "genuine" "Book.genuine" ["self","path","word"] zds:=zap ["self","path","word"] rfl (by decide +kernel) λ_ _ _ _ _ _=>usS λ_=>usS λ_=>usS λ_=>usZ rfl
theorem O23:OkD tab prog 25 "has" "Book.has" ["self","hand","path","word"] zgr:=zap ["self","hand","path","word"] rfl (by decide +kernel) λ_ _ _ _ _ _=>usS λ_=>usS λ_=>usS λ_=>usS λ_=>usZ rfl
theorem O15:OkD tab prog 26 "stamp" "Book.stamp" ["self","hand","path","word"] zeJ:=zap ["self","hand","path","word"] rfl (by decide +kernel) λ_ _ _ _ _ _=>usS λ_=>usS λ_=>usS λ_=>usS λ_=>usZ rfl
theorem O12:OkE tab prog 27 ["self","setting","sender","word","rounds"] zd2:=zmn (F:=zbv) ["self","setting","sender","word","rounds","first","turns","turn"] rfl (by decide +kernel)
theorem O9:OkD tab prog 28 "keep" "Signed.keep" ["self","hand","word","path"] zd1:=zap ["self","hand","word","path","kept"] rfl (by decide +kernel) λ_ _ _ _ _ _=>usS λ_=>usS λ_=>usS λ_=>usS λ_=>usZ rfl
theorem O8:OkD tab prog 29 "kept" "Signed.kept" ["self","hand"] zd0:=zap ["self","hand"] rfl (by decide +kernel) λ_ _ _ _ _ _=>usS λ_=>usS λ_=>usZ rfl
theorem O3:OkD tab prog 30 "letters" "Signed.letters" ["self"] zcL:=zap ["self"] rfl (by decide +kernel) λ_ _ _ _ _ _=>usS λ_=>usZ rfl
theorem O2:OkD tab prog 31 "play_round" "Signed.play_round" ["self","setting","turn"] zb5:=zap ["self","setting","turn","written","path","to","word","good"] rfl (by decide +kernel) λ_ _ _ _ _ _=>usS λ_=>usS λ_=>usS λ_=>usZ rfl
theorem O1:OkD tab prog 32 "written_by_lies" "Signed.written_by_lies" ["self","setting","turn"] zbj:=zap ["self","setting","turn","written","path","to","word","ahead","hand"] rfl (by decide +kernel) λ_ _ _ _ _ _=>usS λ_=>usS λ_=>usS λ_=>usZ rfl
theorem O0:OkD tab prog 33 "written_by_trues" "Signed.written_by_trues" ["self","setting","turn"] zbe:=zap ["self","setting","turn","written","hand","word","path","longer"] rfl (by decide +kernel) λ_ _ _ _ _ _=>usS λ_=>usS λ_=>usS λ_=>usZ rfl
theorem O5:OkE tab prog 34 ["self","many","bound","liars","lies"] zdr:=zmn (F:=zbm) ["self","many","bound","liars","lies"] rfl (by decide +kernel)
theorem O4:OkD tab prog 35 "trues" "Setting.trues" ["self"] zc1:=zap ["self"] rfl (by decide +kernel) λ_ _ _ _ _ _=>usS λ_=>usZ rfl
end
section
open R
theorem plen(S:R.St)(o:MO):(S.push o).len=S.len+1:=by simp[St.push,St.len];lia
theorem W_ex{b:Type}{o:Out b}{Q:b->R.St->Prop}(h:W o Q):∃a T,o=.ok a T/\Q a T:=W.iff.mp h
noncomputable abbrev pD(p:List Int):D:=.tup (p.map .int)
theorem zaw{cf:CF}{i:Nat}{e:CE}{r:CS}{δ:Ev}{S S':R.St}{d:D}{Q:Fl->R.St->Prop}(h:evE cf e δ S=.ok d S')(w:W (exS cf r (δ.set i (Φ d)) S') Q):W (exS cf (.asg i e r) δ S) Q:=by show W (Out.bind _ _) _;rw[h];exact w
theorem za4{cf:CF}{δ:Ev}{S:R.St}{Q:Fl->R.St->Prop}(h:Q (.nx δ) S):W (exS cf .nil δ S) Q:=h
theorem zc7{cf:CF}{g:List Nat}{l:CL}{b r:CS}{δ:Ev}{S S1:R.St}{xs:List D}{ls:List Nat}{Q:Fl->R.St->Prop}(h:evL cf l δ S=.ok (xs,ls) S1)
  (w:W (zbf g (exS cf b) xs δ {S1 with lk:=ls++S1.lk}) λf T=>match f with|.nx a=>W (exS cf r a {T with lk:=S1.lk}) Q|.rt d=>Q (.rt d) {T with lk:=S1.lk}):W (exS cf (.forS g l b r) δ S) Q:=by
 show W (Out.bind _ _) _;rw[h,zaC];unfold zbg;rw[zab,zab];refine w.mono λf T c=>?_;cases f with|nx a=>exact c|rt d=>exact c
theorem zb8{n:Nat}{S:R.St}{ns:List Int}{k:Nat}:app (callF prog (n+1)) 12 [.fix (ns.map .int),.int k] S=.ok (.int (zbP ns k)) S:=by
 refine zaZ rfl rfl ?_;left;refine zcg (λc=>?_) (λc=>?_);have c:k<ns.length:=by simpa using c
 left;refine wOpt_of (zco (x:=D.int ns[k]) (by simp[c])) ?_;left;refine wNeed_of (by decide) ?_
 left;refine wNeed_of (by decide) ?_
 left;refine zah rfl ⟨?_,rfl⟩;unfold zbP;rw[Ε c];rfl;have c:¬k<ns.length:=by simpa using c
 left;refine zah rfl ⟨?_,rfl⟩;unfold zbP;rw[ϛ (by lia)]
noncomputable abbrev Ly:=K3×Option Int
noncomputable def lD(l:Ly):D:=.tup [.int l.1.1,pD l.1.2.1,.int l.1.2.2,oD l.2]
theorem zor(N:Nat)(p:List Int):flat N (pD p)=Γ:=by simp[zaY]
theorem zos(N:Nat)(o:Option Int):flat N (oD o)=Γ:=by cases o<;>rfl
theorem zdK(N:Nat)(l:Ly):flat N (lD l)=Γ:=by unfold lD;rw[zhr,zaY];intro d a;simp only[mem_cons,not_mem_nil,or_false]at a;rcases a with rfl|rfl|rfl|rfl;rfl;exact zor _ _;rfl;exact zos _ _
theorem zhq(N:Nat)(ls:List Ly):flats N (ls.map lD)=Γ:=by rw[zaY];intro d a;obtain⟨l,_,rfl⟩:=mem_map.mp a;exact zdK _ _
structure LyOk(m:Int)(x:Ly):Prop where
 t1:1<=x.1.1
 t2:x.1.1<=30
 p1:1<=x.1.2.1.length
 p7:x.1.2.1.length<=7
 pi:∀i∈x.1.2.1,0<=i/\i<m
 pn:x.1.2.1.Nodup
 hi:0<=x.1.2.2/\x.1.2.2<m
 hp:x.1.2.2∉x.1.2.1
 wd:∀i,x.2=Φ i->-10^60<i/\i<10^60
theorem zc3{n:Nat}{S:R.St}{i:Int}:app (callF prog (n+1)) 0 [.int i] S=.ok (.bl Γ) S:=by refine zaZ rfl rfl ?_;left;refine wOpt_of ((show tyOf S.enter (.int i)=Φ "int" from rfl)) ?_;left;refine wOpt_of ((show tyOf S.enter (.int i)=Φ "int" from rfl)) ?_;left;exact zah rfl ⟨rfl,rfl⟩
theorem zi1{n:Nat}{S:R.St}{i m:Int}(h:0<=i/\i<m):app (callF prog (n+2)) 1 [.int i,.int m] S=.ok (.bl Γ) S:=by refine zaZ rfl rfl ?_;left;refine wOut_of zc3 ?_;left;refine zhF (by simpa using h.1) ?_;left;exact zah rfl ⟨by simp[h.2],rfl⟩
theorem zmi{n:Nat}{S:R.St}{i:Int}(h:-10^60<i/\i<10^60):app (callF prog (n+2)) 2 [.int i] S=.ok (.bl Γ) S:=by
 refine zaZ rfl rfl ?_;left;refine wOut_of zc3 ?_;left;right;left;refine zah rfl ⟨?_,rfl⟩;have:(if i<0 then -i else i)<(10:Int)^60:=by split<;>omega
 rw[show Int.toNat 60=60 from rfl,decide_eq_true this]
theorem zgg{n:Nat}{S:R.St}{i lo a:Int}(b:lo<=i)(c:i<=a):app (callF prog (n+2)) 3 [.int i,.int lo,.int a] S=.ok (.int i) S:=by refine zaZ rfl rfl ?_;left;refine wOut_of zc3 ?_;left;refine zhF (by simpa using b) ?_;left;refine ziA (by simpa using c) ?_;left;exact zah rfl ⟨rfl,rfl⟩
theorem zeE{n:Nat}{S:R.St}{i m:Int}(h:0<=i/\i<m):app (callF prog (n+3)) 4 [.int i,.int m] S=.ok (.int i) S:=by refine zaZ rfl rfl ?_;left;refine wOut_of (zi1 h) ?_;left;exact zah rfl ⟨rfl,rfl⟩
theorem zlT{ns:List Int}(h:ns.Nodup):dedup ns=ns:=by
 suffices ∀(l a:List Int),(a++l).Nodup->l.foldl (λa x=>if a.contains x then a else a++[x]) a=a++l from this ns [] h
 intro l;induction l with
 |nil=>intro a _;simp| cons x l b=>
  intro a h;rw[List.foldl_cons];have c:a.contains x=Δ:=by have:=(nodup_append.mp h).2.2;simp only[List.contains_eq_mem,decide_eq_false_iff_not];exact λd=>this x d x Ρ rfl
  rw[c];simp only[Υ,if_false];rw[b (a++[x]) (by simpa using h)];simp
theorem zl0(a:List Int)(f:D->D)(b:∀i,f (.int i)=.bl Γ):allD ((a.map D.int).map f)=Φ Γ:=by
 unfold allD;have:((a.map D.int).map f).mapM zev=Φ (a.map λ_=>Γ):=by induction a with|nil=>rfl| cons q d c=>rw[ϋ,ϋ,mapM_cons,b q,c];rfl
 rw[this];simp
theorem zpy{n:Nat}{S:R.St}{p:List Int}{m:Int}(e:1<=p.length)(f:p.length<=7)(b:∀i∈p,0<=i/\i<m)(pn:p.Nodup):app (callF prog (n+3)) 6 [pD p,.int m] S=.ok (.bl Γ) S:=by
 refine zaZ rfl rfl ?_;left;refine wOpt_of ((show tyOf S.enter (pD p)=Φ "tuple" from rfl)) ?_;left;refine zhF (by simp;lia) ?_;left;refine ziA (by simp;lia) ?_;left;refine zam ?_;refine W.of (zcJ (λd=>.bl Γ) (p.map D.int) Ψ (λz a=>rfl) (λz a=>?_)) ?_;obtain⟨q,c,rfl⟩:=mem_map.mp a;refine W.eq (wE_W _ ?_);left;refine wOut_of (zi1 (b q c)) ?_;left;exact⟨rfl,rfl⟩;left;refine wNeed_of (by simp;lia) ?_
 left;refine wOpt_of (zl0 p _ (λ_=>rfl)) ?_;left;refine wOpt_of (zba p) ?_;left;refine wNeed_of (by lia) ?_
 left;refine zah rfl ⟨?_,rfl⟩;rw[zlT pn];simp
theorem zpw{n:Nat}{S:R.St}{t:Int}(a:1<=t)(b:t<=30):app (callF prog (n+2)) 10 [.int t] S=.ok (.bl Γ) S:=by refine zaZ rfl rfl ?_;left;refine wOut_of zc3 ?_;left;refine zhF (by simpa using a) ?_;left;exact zah rfl ⟨by simp[b],rfl⟩
theorem zj5(S:R.St)(x:Int)(ks:List Int):cmpO S .In (.int x) (.tup (ks.map .int))=Φ (decide (x∈ks)):=zhk S x ks
theorem zrA{n:Nat}{S:R.St}{x:Ly}{m:Int}(h:LyOk m x):app (callF prog (n+4)) 9 [lD x,.int m] S=.ok (.bl Γ) S:=by obtain⟨⟨t,p,q⟩,w⟩:=x;obtain⟨a,b,c,d,e,f,g,j,k⟩:=h;dsimp only at a b c d e f g j k;refine zaZ (F:=zhB) rfl rfl ?_;left;refine wOpt_of ((show tyOf S.enter (lD ((t,p,q),w))=Φ "tuple" from rfl)) ?_;left;unfold lD;dsimp only;left;refine wOpt_of atI_0 ?_;left;refine wOut_of (zpw (n:=n+1) a b) ?_;left;refine wOpt_of zra ?_;left;refine wOut_of (zpy (n:=n) c d e f) ?_;left;refine wOpt_of ((show atI [.int t,pD p,.int q,oD w] 2=Φ (.int q) from rfl)) ?_;left;refine wOut_of (zi1 (n:=n+1) g) ?_;left;refine wOpt_of ((show atI [.int t,pD p,.int q,oD w] 2=Φ (.int q) from rfl)) ?_;left;refine wOpt_of zra ?_;left;refine wOpt_of (zj5 _ q p) ?_;left;refine ziA (by simpa using j) ?_;left;refine wOpt_of ((show atI [.int t,pD p,.int q,oD w] 3=Φ (oD w) from rfl)) ?_;left;cases w with| none=>left;exact zah rfl ⟨rfl,rfl⟩| some i=>left;refine wOpt_of ((show atI [.int t,pD p,.int q,oD (Φ i)] 3=Φ (oD (Φ i)) from rfl)) ?_;left;refine wOut_of (zmi (n:=n+1) (k i rfl)) ?_;left;exact zah rfl ⟨rfl,rfl⟩
theorem zn2{S:R.St}{l:Nat}{ks:List Int}(h:S.get l=Φ (.lst (ks.map .int))):lstI S (.ref l)=Φ ks:=by unfold lstI;dsimp only;rw[h];exact zba ks
noncomputable def liZ(a:List Int):List Int:=zeC (dedup a)
theorem zlS(ns:List Int):(dedup ns).length<=ns.length:=by
 unfold dedup;suffices ∀(l a:List Int),(l.foldl (λa x=>if a.contains x then a else a++[x]) a).length<=a.length+l.length from by simpa using this ns []
 intro l;induction l with|nil=>intro a;simp| cons x l b=>intro a;rw[List.foldl_cons];refine le_trans (b _) ?_;split<;>simp<;>lia
theorem zn5(a:List Int):(liZ a).length<=a.length:=by unfold liZ;rw[(zbo _).length_eq];exact zlS a
theorem znp{n l:Nat}{S:R.St}{m:Int}{a:List Int}(h:S.get l=Φ (.lst (a.map .int)))(c:∀i∈a,0<=i/\i<m)(f:a.length<=60):app (callF prog (n+4)) 7 [.int m,.ref l] S=.ok (pD (liZ a)) S:=by
 refine zaZ rfl rfl ?_;left;refine zbU h ?_;left;refine zam ?_;refine W.of (zcJ (λd=>d) (a.map D.int) Ψ (λz b=>rfl) (λz b=>?_)) ?_;obtain⟨q,e,rfl⟩:=mem_map.mp b;refine W.eq (wE_W _ ?_);left;refine wOut_of (zeE (c q e)) ?_;left;exact⟨rfl,rfl⟩;rw[List.map_id'];left;refine wNeed_of (by simp;lia) ?_
 left;refine wNeed_of (by simp;lia) ?_
 left;refine wOpt_of (zn2 (zlP _ _ _)) ?_;left;refine wNeed_of (by lia) ?_
 left;have:=zn5 a;unfold liZ at this;refine wNeed_of (by simp;lia) ?_
 left;refine zaW rfl ?_;left;refine wNeed_of (by simp;lia) ?_
 left;exact zah (by simp) ⟨rfl,rfl⟩
theorem zow{S:R.St}{l:Nat}{xs:List D}(h:S.get l=Φ (.lst xs)):zdM S (.ref l)=Φ (xs.mapIdx λi d=>zcx (.int i) d,[l]):=by unfold zdM;dsimp only;rw[h]
theorem zpz{n l:Nat}{S:R.St}{m:Int}{a:List Ly}(h:S.get l=Φ (.lst (a.map lD)))(j:∀x∈a,LyOk m x)(o:a.length<=1000):app (callF prog (n+5)) 8 [.int m,.ref l] S=.ok (.tup (a.map lD)) S:=by
 refine zaZ (F:=zcW) rfl rfl ?_;left;refine wOpt_of (zow (zeY h _ _)) ?_;left;refine zam ?_;refine W.mono (zal (λi c T=>(∃u v:Option D,c=[Φ (.int m),Φ (.ref l),u,v])/\T=⟨S.frz++S.new,[],[l]⟩) (λ_ _=>False) _ 0 _ _ ⟨⟨Ψ,Ψ,rfl⟩,rfl⟩ ?_) ?_;rintro i z c T b ⟨⟨u,v,rfl⟩,rfl⟩;rw[List.getElem?_mapIdx,getElem?_map]at b;cases e:a[i]? with
 |none=>rw[e]at b;exact nS b
 |some x=>rw[e]at b;cases b;refine⟨[Φ (.int m),Φ (.ref l),Φ (.int i),Φ (lD x)],rfl,?_⟩;refine wS_W _ ?_;left;refine wOut_of ((zrA (n:=n) (j x (mem_of_getElem? e)))) ?_;left;exact⟨⟨_,_,rfl⟩,rfl⟩
 rintro f T g;cases f with
 |rt d=>exact g.elim| nx c=>
  obtain⟨⟨u,v,rfl⟩,rfl⟩:=g;left;refine zbU h ?_;left;refine wNeed_of (by simp;lia) ?_
  left;refine zah ?_ ⟨rfl,rfl⟩;rw[zhr,zaY];intro d k;obtain⟨x,_,rfl⟩:=mem_map.mp k;exact zdK _ x
section
variable{S:R.St}{a:Nat}
theorem zaJ{c:Nat}{b:List (PySem.Str×D)}(e:S.get a=Φ (.ins c b)):zd5 S (.ref a)=Φ (c,b):=by unfold zd5;dsimp only;rw[e]
theorem zaH{c:Nat}{b:List (PySem.Str×D)}{f:PySem.Str}{v:D}(e:S.get a=Φ (.ins c b))(g:b.lookup f=Φ v):((zd5 S (.ref a)).bind λp=>p.2.lookup f)=Φ v:=by rw[zaJ e];exact g
end
theorem zcH{P:List Fn}{F:Fn}{f n:Nat}{a:List D}{S:R.St}{Q:D->R.St->Prop}(h:P[f]?=Φ F)(b:a.length=F.np)(w:W (exS (callF P n) F.body (zaP F a) S) λr T=>match r with|.nx _=>Q .non T|.rt d=>Q d T)(c:F.prim=Ψ:=by rfl):W (appW (callF P (n+1)) f a S) Q:=by unfold appW;simp only[callF,h,b,c,if_true,zab];refine w.mono λr T q=>?_;cases r<;>exact q
theorem zdV{P:List Fn}{F:Fn}{f n:Nat}{a:List D}{S S':R.St}{d:D}(h:P[f]?=Φ F)(b:a.length=F.np)(w:wS (callF P n) F.body (zaP F a) S λr T=>match r with|.nx _=>D.non=d/\T=S'|.rt z=>z=d/\T=S')(c:F.prim=Ψ:=by rfl):appW (callF P (n+1)) f a S=.ok d S':=by refine W.eq (zcH h b ((wS_W _ w).mono λr T q=>?_) c);cases r<;>exact q
noncomputable def rg(m:Int):List Int:=(List.range m.toNat).map λ(k:Nat)=>(k:Int)
theorem zbb(p:Int->Bool)(f:Int->D)(q:D->Bool)(g:D->D)(a:∀o,q (.int o)=p o)(b:∀o,g (.int o)=f o):∀xs:List Int,((xs.map D.int).filter q).map g=(xs.filter p).map f
 | []=>rfl| x::xs=>by rw[ϋ,List.filter_cons,List.filter_cons,a];cases p x with|true=>simp only[if_true,ϋ,b];rw[zbb p f q g a b xs]|false=>simpa using zbb p f q g a b xs
structure Mv(A:List Nat)(S T:R.St):Prop where
 frz:T.frz=S.frz
 lk:T.lk=S.lk
 len:S.len<=T.len
 old:∀m o,m∉A->S.get m=Φ o->T.get m=Φ o
theorem Mv.refl(A:List Nat)(S:R.St):Mv A S S:=⟨rfl,rfl,le_refl _,λ_ _ _ h=>h⟩
theorem Mv.trans{A:List Nat}{S T U:R.St}(a:Mv A S T)(b:Mv A T U):Mv A S U:=⟨b.frz.trans a.frz,b.lk.trans a.lk,le_trans a.len b.len,λm o h e=>b.old m o h (a.old m o h e)⟩
theorem Mv.push(A:List Nat)(S:R.St)(o:MO):Mv A S (S.push o):=⟨rfl,rfl,by rw[plen];lia,λ_ _ _ e=>zae e⟩
theorem Mv.up{A B:List Nat}{S T:R.St}(h:Mv A S T)(s:∀m,m∈A->m∈B):Mv B S T:=⟨h.frz,h.lk,h.len,λm o a e=>h.old m o (λz=>a (s m z)) e⟩
theorem get_lt{S:R.St}(h:S.get l=Φ o):l<S.len:=by unfold St.get at h;unfold St.len;split at h;lia;have:=(Β.mp h).1;lia
structure Fr(S:R.St)(a:Nat):Prop where
 f:S.frz.length<=a
 k:S.lk.contains a=Δ
theorem Fr.mv{A:List Nat}{S T:R.St}{a:Nat}(h:Fr S a)(v:Mv A S T):Fr T a:=⟨by rw[v.frz];exact h.f,by rw[v.lk];exact h.k⟩
theorem zb7{S:R.St}{a c:Nat}{b gs:List (PySem.Str×D)}{f:PySem.Str}{v:D}(e:S.get a=Φ (.ins c b))(d:Fr S a)(g:b.length<1000)(h:zje f v b=gs):∃T,zbF S (.ref a) f v=Φ T/\Mv [a] S T/\T.get a=Φ (.ins c gs):=by obtain⟨T,i,j,k,q,l,n⟩:=zeK (.ins c gs) d.f d.k;refine⟨T,?_,⟨j,k,by lia,λm o p e=>by rw[l m (by simpa using p)];exact e⟩,n (get_lt e)⟩;unfold zbF;dsimp only;rw[e];dsimp only;rw[if_pos g,h,i]
theorem zlC{T:R.St}{N:Nat}(a:∀l∈T.lk,l<N)(b:N<=T.len):T.lk.contains T.len=Δ:=by rw[Bool.eq_false_iff];intro z;have:=a _ (List.contains_iff_mem.mp z);lia
theorem Mv.lock{A:List Nat}{S T:R.St}{l:List Nat}(h:Mv A {S with lk:=l} T):Mv A S {T with lk:=S.lk}:=⟨h.frz,rfl,h.len,λm o a e=>h.old m o a e⟩
theorem zgB{T:R.St}{l:List Nat}(h:T.lk=l):({T with lk:=l}:R.St)=T:=by subst h;rfl
theorem zg6{T:R.St}{l:Nat}{o u:MO}(a:Fr T l)(e:T.get l=Φ o):∃U,T.put l u=Φ U/\Mv [l] T U/\U.get l=Φ u:=by obtain⟨U,b,c,d,i,f,g⟩:=zeK u a.f a.k;exact⟨U,b,⟨c,d,by lia,λm x h e=>by rw[f m (by simpa using h)];exact e⟩,g (get_lt e)⟩
theorem ze9{P:List Fn}{F:Fn}{f n:Nat}{d:List D}{S:R.St}{B:List D->Prop}(h:P[f]?=Φ F)(i:d.length=F.np)(w:wS (callF P n) F.body (zaP F d) S.enter λr T=>∃l c,r=.rt (.ref l)/\S.len<=l/\T.get l=Φ (.lst c)/\flats S.len c=Γ/\B c)(j:F.prim=Ψ:=by rfl) :
  ∃c,B c/\app (callF P (n+1)) f d S=.ok (.ref S.len) (S.push (.lst c)):=by
 have:W (app (callF P (n+1)) f d S) λa g=>∃c,B c/\a=.ref S.len/\g=S.push (.lst c):=by rw[zf9 h i j,zab];refine(wS_W _ w).mono λr T q=>?_;obtain⟨l,c,rfl,k,m,o,p⟩:=q;have:=ziC (Q:=λa g=>∃c,B c/\a=.ref S.len/\g=S.push (.lst c)) k m o ⟨c,p,rfl,rfl⟩;unfold wFin at this;exact this
 obtain⟨a,T,e,c,b,rfl,rfl⟩:=W_ex this;exact⟨c,b,e⟩
theorem zkF{P:List Fn}{F:Fn}{f n:Nat}{c:List D}{S:R.St}{B:D->Prop}(h:P[f]?=Φ F)(i:c.length=F.np)(w:wS (callF P n) F.body (zaP F c) S.enter λr T=>∃d,r=.rt d/\flat S.len d=Γ/\B d)(j:F.prim=Ψ:=by rfl) :
  ∃d,B d/\app (callF P (n+1)) f c S=.ok d S:=by
 have:W (app (callF P (n+1)) f c S) λa g=>B a/\g=S:=by rw[zf9 h i j,zab];refine(wS_W _ w).mono λr T q=>?_;obtain⟨d,rfl,k,l⟩:=q;have:=zah (T:=T) (Q:=λa g=>B a/\g=S) k ⟨l,rfl⟩;unfold wFin at this;exact this
 obtain⟨a,T,e,b,rfl⟩:=W_ex this;exact⟨a,b,e⟩
noncomputable def bigZ(c:Int):Int:=c%(2*10^60-1)-(10^60-1)
theorem zmH(c:Int):-10^60<bigZ c/\bigZ c<10^60:=by unfold bigZ;lia
theorem zpC{n:Nat}{S:R.St}{c:Int}:app (callF prog (n+1)) 13 [.int c] S=.ok (.int (bigZ c)) S:=by refine zaZ rfl rfl ?_;left;right;left;right;left;right;left;right;left;refine zah rfl ⟨rfl,rfl⟩
theorem zi3{m i:Nat}{z:D}(hz:(List.map (λ(k:Nat)=>D.int k) (List.range (m:Int).toNat))[i]?=Φ z):i<m/\z=.int i:=by rw[getElem?_map]at hz;rw[ϡ]at hz;by_cases h:i<m;rw[List.getElem?_range h]at hz;exact⟨h,by cases hz;rfl⟩;rw[ϛ (by simpa using h)]at hz;exact nS hz
theorem zpx{n:Nat}{S:R.St}{c:Int}{m:Nat}(q:m<=7):∃g,(∃a:List Int,g=a.map .int/\a.length<=m/\∀i∈a,0<=i/\i<m)/\app (callF prog (n+1)) 18 [.int c,.int m] S=.ok (.ref S.len) (S.push (.lst g)):=by
 refine ze9 rfl rfl ?_;left;right;left;refine wNeed_of (by lia) ?_
 left;refine zam ?_;refine W.mono (zal (λi e T=>(∃(x:Int) (u:Option D),e=[Φ (.int x),Φ (.int m),Φ (.ref ((S.frz++S.new).length+0)),u])/\(∃a:List Int,a.length<=i/\(∀j∈a,0<=j/\j<m)/\T=⟨S.frz++S.new,[.lst (a.map .int)],[]⟩)) (λ_ _=>False) _ 0 _ _ ⟨⟨c,Ψ,rfl⟩,[],by simp,by simp,rfl⟩ ?_) ?_;rintro i z e T o ⟨⟨x,u,rfl⟩,a,k,b,rfl⟩;obtain⟨r,rfl⟩:=zi3 o;refine⟨_,rfl,wS_W _ ?_⟩;left;right;left;refine zcg (λc=>?_) (λc=>?_)
 . left
   repeat (first|(right;conv=>whnf)|(refine zaW rfl ?_;conv=>whnf)|(refine zc2 rfl ?_;conv=>whnf)|(refine zbU (by assumption) ?_;conv=>whnf))
   refine⟨⟨_,_,rfl⟩,a++[(i:Int)],by simp;lia,?_,by simp⟩;intro j p;rcases mem_append.mp p with h|h;exact b j h;simp only[mem_singleton]at h;lia
 left;right;left;exact⟨⟨_,_,rfl⟩,a,by lia,b,rfl⟩;rintro f T l;cases f with|rt d=>exact l.elim| nx e=>obtain⟨⟨x,u,rfl⟩,a,k,b,rfl⟩:=l;left;refine⟨_,_,rfl,?_,zcl _ _ _ 0,?_,a,rfl,?_,b⟩;simp[St.len];simp[zaY];simpa using k
theorem zno{n:Nat}{S:R.St}{c:Int}:∃e,(∃xs:List Int,e=xs.map .int/\xs.length=6)/\app (callF prog (n+1)) 14 [.int c,.int 6] S=.ok (.ref S.len) (S.push (.lst e)):=by
 refine ze9 rfl rfl ?_;left;right;left;right;left;right;left;refine zam ?_;refine W.mono (zal (λi b T=>(∃(x:Int) (u:Option D),b=[Φ (.int c),Φ (.int 6),Φ (.ref ((S.frz++S.new).length+0)),Φ (.int x),u])/\(∃a:List Int,a.length=i/\T=⟨S.frz++S.new,[.lst (a.map .int)],[]⟩)) (λ_ _=>False) _ 0 _ _ ⟨⟨_,Ψ,rfl⟩,[],by simp,rfl⟩ ?_) ?_
 . rintro i z b T j ⟨⟨x,u,rfl⟩,a,g,rfl⟩;obtain⟨k,rfl⟩:=zi3 j;refine⟨_,rfl,wS_W _ ?_⟩;left;have:a.length<6:=by cutsat
   left;refine wNeed_of (by unfold zjv;simp) ?_
   left;right;left;refine wNeed_of (by unfold zjv;left;cutsat) ?_
   repeat (first|(right;conv=>whnf)|(refine zaW rfl ?_;conv=>whnf)|(refine zc2 rfl ?_;conv=>whnf)|(refine zbU (by assumption) ?_;conv=>whnf))
   exact⟨⟨_,_,rfl⟩,a++[_],by simp;cutsat,by simp;rfl⟩
 rintro f T h;cases f with|rt d=>exact h.elim| nx b=>obtain⟨⟨x,u,rfl⟩,a,g,rfl⟩:=h;left;refine⟨_,_,rfl,?_,zcl _ _ _ 0,?_,a,rfl,?_⟩;simp[St.len];simp[zaY];simpa using g
theorem zdx{a:Type}(l:List a)(x:Int)(h:0<l.length):∃k,∃b:k<l.length,x%(l.length:Int)=(k:Int):=by have c:=emod_nonneg x (show(l.length:Int)≠0 by lia);have d:=Int.emod_lt_of_pos x (show(0:Int)<l.length by lia);exact⟨(x%(l.length:Int)).toNat,by lia,by lia⟩
noncomputable def Hs(m:Int)(p:List Int):Prop:=p.Nodup/\∀i∈p,0<=i/\i<m
theorem Hs.perm{m:Int}{p q:List Int}(h:Hs m p)(e:q.Perm p):Hs m q:=⟨e.nodup_iff.mpr h.1,λi a=>h.2 i (e.mem_iff.mp a)⟩
theorem Hs.left{m:Int}{p q:List Int}(h:Hs m (p++q)):Hs m p:=⟨(nodup_append.mp h.1).1,λi a=>h.2 i (mem_append_left _ a)⟩
theorem Hs.len{m:Nat}{p:List Int}(h:Hs m p):p.length<=m:=by
 have:(p.map Int.toNat).Nodup:=by rw[List.nodup_iff_pairwise_ne,pairwise_map];have:=List.nodup_iff_pairwise_ne.mp h.1;refine Pairwise.imp_of_mem ?_ this;intro a b c d k e;have:=h.2 a c;have:=h.2 b d;lia
 have f:(p.map Int.toNat) ⊆ List.range m:=by intro x g;obtain⟨i,j,rfl⟩:=mem_map.mp g;have:=h.2 i j;rw[mem_range];lia
 have:=List.Nodup.length_le_of_subset this f;simpa using this
theorem zhm(m:Nat):Hs m ((List.range m).map λ(k:Nat)=>(k:Int)):=by refine⟨?_,?_⟩;rw[List.nodup_iff_pairwise_ne,pairwise_map];exact(List.nodup_iff_pairwise_ne.mp List.nodup_range).imp λ{a b} h e=>h (by lia);intro i c;obtain⟨k,d,rfl⟩:=mem_map.mp c;have:=mem_range.mp d;lia
noncomputable abbrev Wd(a:List Int):Prop:=a.length=4/\∀i∈a,-10^60<i/\i<10^60
theorem erase_perm:∀(l:List Int)(k:Nat)(a:k<l.length),(l[k]::l.eraseIdx k).Perm l
 |x::l,0,_=>List.Perm.refl _| x::l,k+1,a=>by
  have a:k<l.length:=by simpa using a
  exact(List.Perm.swap x l[k] (l.eraseIdx k)).trans ((erase_perm l k a).cons x)
theorem zfP(f:Int->D):∀(l:List Int)(k:Nat),(l.eraseIdx k).map f=(l.map f).eraseIdx k
 | [],k=>by simp|x::l,0=>rfl|x::l,k+1=>by simp[zfP f l k]
theorem two_at(a b x:Int)(P:Int->Prop)(c:P a)(d:P b):∃t,P t/\atI [D.int a,D.int b] (x%2)=Φ (.int t):=by rcases(show x%2=0\/x%2=1 by lia) with h|h;exact⟨a,c,by rw[h];rfl⟩;exact⟨b,d,by rw[h];rfl⟩
theorem zmP(a:List Int)(x:Int)(b:Wd a):∃w:Option Int,(∀i,w=Φ i->-10^60<i/\i<10^60)/\atI (a.map .int++[.non]) (x%5)=Φ (oD w):=by
 have d:=emod_nonneg x (show(5:Int)≠0 by decide);have f:=Int.emod_lt_of_pos x (show(0:Int)<5 by decide);by_cases h:x%5<4;obtain⟨k,e⟩:∃k:Nat,x%5=k:=⟨(x%5).toNat,by lia⟩;have c:k<a.length:=by rw[b.1];lia
 refine⟨Φ a[k],λi e=>by cases e;exact b.2 _ (ϕ c),?_⟩;rw[e];exact zco (by rw[getElem?_append_left (by simpa using c),getElem?_map,Ε c];rfl);refine⟨Ψ,(λi e=>by exact nS e),?_⟩;have:x%5=((4:Nat):Int):=by lia
 rw[this];exact zco (by rw[getElem?_append_right (by simp[b.1]),length_map,b.1];rfl)
theorem zpB{n wl:Nat}{S:R.St}{c:Int}{m:Nat}{g:List Int}(O:2<=m)(Q:m<=7)(v:S.get wl=Φ (.lst (g.map .int)))(q:Wd g):∃d,(∃x,d=lD x/\LyOk m x)/\app (callF prog (n+1)) 15 [.int c,.int m,.ref wl] S=.ok d S:=by
 refine zkF (F:=zer) rfl rfl ?_;left;refine wNeed_of (by simp;cutsat) ?_
 left;refine wNeed_of (by simp;cutsat) ?_
 left;right;left;right;left;refine wNeed_of (by cutsat) ?_
 left;have y:=emod_nonneg (c%7) (show((m:Int)-1)≠0 by cutsat);have A:=Int.emod_lt_of_pos (c%7) (show(0:Int)<(m:Int)-1 by cutsat);generalize U:c%7%((m:Int)-1)=r at y A;refine wNeed_of (by cutsat) ?_
 left;refine zam ?_;refine W.mono (zal (λi h T=>∃(x:Int) (p l:List Int) (u:Option D),h=[Φ (.int x),Φ (.int m),Φ (.ref wl),Φ (.ref ((S.frz++S.new).length+0)),Φ (pD p),u,Ψ,Ψ]/\p.length=i/\l.length+i=m/\Hs m (p++l)/\T=⟨S.frz++S.new,[.lst (l.map .int)],[]⟩) (λ_ _=>False) _ 0 _ _ ⟨c,[],(List.range m).map λ(k:Nat)=>(k:Int),Ψ,rfl,rfl,by simp,zhm m,by rw[map_map];rfl⟩ ?_) ?_;rintro i z h T B ⟨x,p,l,u,rfl,j,o,b,rfl⟩;have C:i<(1+r).toNat:=by have:=(Β.mp B).1;simpa using this
 rw[zero_add]at j o;refine⟨_,rfl,wS_W _ ?_⟩;obtain⟨k,a,e⟩:=zdx l (x/7%7) (by cutsat);left;right;left;refine zaW rfl ?_;left;right;left;refine zaW rfl ?_;left;refine wNeed_of (by simp;cutsat) ?_
 left;refine zaW rfl ?_;left;rw[length_map,e,ϡ];refine wNeed_of (by cutsat) ?_
 left;refine wOpt_of (by rw[getElem?_map,Ε a];rfl) ?_;left;refine wNeed_of (by rw[List.length_eraseIdx];split<;>simp<;>cutsat) ?_
 left;refine zc2 rfl ?_;left;right;left;refine wNeed_of (by rw[length_map];simp;cutsat) ?_
 left;have E:(p++[l[k]]++l.eraseIdx k).Perm (p++l):=by rw[append_assoc];exact(erase_perm l k a).append_left p
 refine⟨_,p++[l[k]],l.eraseIdx k,_,by rw[show D.tup (p.map D.int++[D.int l[k]])=pD (p++[l[k]]) by simp];rfl,by simp;cutsat,?_,b.perm E,?_⟩;rw[List.length_eraseIdx,if_pos a];cutsat;rw[zfP];rfl;rintro f T s;cases f with
 |rt d=>exact s.elim| nx h=>
  obtain⟨x,p,l,u,rfl,j,o,b,rfl⟩:=s;rw[length_map,length_range,zero_add]at j o;obtain⟨k,a,e⟩:=zdx l (x/7%7) (by cutsat);left;right;left;right;left;refine zaW rfl ?_;left;refine wNeed_of (by simp;cutsat) ?_
  left;refine zaW rfl ?_;left;rw[length_map,e];refine wOpt_of (zco (by rw[getElem?_map,Ε a];rfl)) ?_;left;right;left;right;left;right;left;right;left;right;left;refine wOpt_of (zag _ _) ?_;left;obtain⟨t,⟨G,H⟩,I⟩:=two_at p.length (1+x/7/7/2%30) (x/7/7) (λt=>1<=t/\t<=30) (by cutsat) (by cutsat);rw[length_map];refine wOpt_of I ?_;left;right;left;refine zbU v ?_;left;refine wOpt_of (zag _ _) ?_;left;refine wNeed_of (by simp[q.1]) ?_
  left;right;left;right;left;refine wOpt_of (zag _ _) ?_;left;obtain⟨w,J,L⟩:=zmP g (x/7/7/60) q;refine wOpt_of L ?_;left;right;left;have M:=nodup_append.mp b.1;refine⟨_,rfl,?_,((t,p,l[k]),w),rfl,⟨G,H,?_,?_,b.left.2,b.left.1,b.2 _ (mem_append_right _ (ϕ a)),?_,J⟩⟩;exact zdK _ ((t,p,l[k]),w);dsimp only;cutsat;dsimp only;cutsat;exact λN=>M.2.2 _ N _ (ϕ a) rfl
noncomputable def offL(m:Int)(p:List Int):List Int:=(rg m).filter λo=>!decide (o∈p)
theorem zpG(m:Nat):Hs m (rg m):=by unfold rg;rw[ϡ];exact zhm m
theorem zdv(m:Nat)(p:List Int):(offL m p).length<=m:=by unfold offL;refine le_trans (List.length_filter_le _ _) ?_;unfold rg;simp
theorem zdu{m:Nat}{p:List Int}{o:Int}(h:o∈offL m p):(0<=o/\o<m)/\o∉p:=by unfold offL at h;rw[mem_filter]at h;exact⟨(zpG m).2 o h.1,by simpa using h.2⟩
theorem zjs{m:Nat}{p:List Int}(h:Hs m p)(d:p.length<m):0<(offL m p).length:=by
 by_cases c:0<(offL m p).length;exact c;exfalso;have e:offL m p=[]:=List.eq_nil_of_length_eq_zero (by lia);have a:rg m ⊆ p:=by
  intro o b;by_cases q:o∈p;exact q;have:o∈offL m p:=by unfold offL;rw[mem_filter];exact⟨b,by simpa using q⟩
  rw[e]at this;cases this
 have:=List.Nodup.length_le_of_subset (zpG m).1 a;unfold rg at this;simp at this;lia
theorem zdw(S:R.St)(x:Int)(ks:List Int):cmpO S .NotIn (.int x) (.tup (ks.map .int))=Φ (!decide (x∈ks)):=by have:=zj5 S x ks;unfold cmpO at this⊢;dsimp only at this⊢;rw[this];rfl
theorem zqZ{cf:CF}{T:R.St}{m:Int}{p:List Int}{u0 u2 u3 u4 u5 u7 u8 u9 u10:Option D}(m0:0<=m)(m7:m<=7) :
  evE cf (.mkL (.comp 1 [6] [0] (.rng1 J1) (.cmp .NotIn J0 J1) J0)) [u0,Φ (.int m),u2,u3,u4,u5,Φ (pD p),u7,u8,u9,u10] T=.ok (.ref T.len) (T.push (.lst ((offL m p).map .int))):=by
 refine W.eq (wE_W _ ?_);left;refine wNeed_of (by lia) ?_
 left;refine zam ?_;refine W.of (za9 (λd=>match d with|.int o=>!decide (o∈p)|_=>Δ) (λd=>d) _ Ψ (λz hz=>?_) (λz hz _=>?_)) ?_;obtain⟨o,_,rfl⟩:=mem_map.mp hz;refine W.eq (wT_W _ ?_);left;refine wOpt_of (zdw T (o:Int) p) ?_;left;exact⟨rfl,rfl⟩;rfl;have hx:((List.range m.toNat).map λ(k:Nat)=>D.int (k:Int))=(rg m).map .int:=by unfold rg;rw[map_map];rfl
 rw[hx,zbb (λo=>!decide (o∈p)) .int _ _ (λo=>rfl) (λo=>rfl)];have hl:(offL m p).length<=7:=by have:=zdv m.toNat p;rw[Int.toNat_of_nonneg m0]at this;lia
 unfold offL at hl⊢;refine wNeed_of (by rw[length_map];lia) ?_
 left;refine wNeed_of (by rw[length_map];lia) ?_
 left;exact⟨rfl,rfl⟩
noncomputable def CS.rest:CS->CS
 |.asg _ _ r=>r|.ifS _ _ _ r=>r|.asgT _ _ r=>r|.forS _ _ _ r=>r|.expr _ r=>r|s=>s
structure Pth(m:Nat)(p:List Int):Prop where
 h:Hs m p
 l:1<=p.length
 g:p.length<m
noncomputable abbrev wOk(w:Option Int):Prop:=∀i,w=Φ i->-10^60<i/\i<10^60
theorem zcp{l:List Int}{k:Nat}(a:k<l.length):atI (l.map D.int) (k:Int)=Φ (.int l[k]):=zco (by rw[getElem?_map,Ε a];rfl)
noncomputable def lieT(k:Nat):CS:=Nat.repeat CS.rest k c_law_lie.body
theorem zqE{cf:CF}{T:R.St}{b N m:Nat}{M:Int}(a:M=m){p:List Int}{w:Option Int}{t i j l n c o:Int}{q s u v y z:Option D}(A:T.get b=Φ (.lst [.int i,.int j,.int l,.int n,.int c,.int o]))(J:m<=7)(h:Pth m p)(B:wOk w)(C:1<=t)(E:t<=30) :
  W (exS cf (lieT 10) [q,Φ (.int M),s,u,v,Φ (.ref b),Φ (pD p),Φ (oD w),y,z,Φ (.int t)] T) λr T=>∃d,r=.rt d/\flat N d=Γ/\∃x,d=lD x/\LyOk m x:=by
 refine zaw (zqZ (by lia) (by lia)) (wS_W _ ?_);left;refine wOpt_of (zae A) ?_;left;refine wOpt_of rfl ?_;left;refine wOpt_of (zag _ _) ?_;left;have f:=zjs h.h h.g;rw[<-a]at f;obtain⟨k,g,e⟩:=zdx (offL M p) c f;refine wNeed_of (by simp;lia) ?_
 left;refine wOpt_of (zag _ _) ?_;left;rw[length_map,e];refine wOpt_of (zcp g) ?_;left;right;left;obtain⟨G,H⟩:(0<=(offL M p)[k]/\(offL M p)[k]<M)/\(offL M p)[k]∉p:=by subst a;exact zdu (ϕ g)
 have I:=h.l;have L:=h.g;refine⟨_,rfl,?_,((t,p,(offL M p)[k]),w),rfl,⟨C,E,I,by lia,h.h.2,h.h.1,?_,?_,B⟩⟩;exact zdK _ ((t,p,(offL M p)[k]),w);subst a;exact G;exact H
theorem zdH{cf:CF}{c:CE}{t r:CS}{δ:Ev}{S:R.St}{Q:Fl->R.St->Prop}(B:Bool->Prop)(e:W (evT cf c δ S) λb T=>T=S/\B b)(y:B Γ->W (exS cf t δ S) λf T=>match f with|.nx a=>W (exS cf r a T) Q|.rt d=>Q (.rt d) T)(n:B Δ->W (exS cf r δ S) Q):W (exS cf (.ifS c t .nil r) δ S) Q:=by
 obtain⟨b,T,i,rfl,g⟩:=W_ex e;show W (Out.bind _ _) _;rw[i,zaC];cases b with
 |true=>rw[zab];refine(y g).mono λf T h=>?_;cases f with|nx a=>exact h|rt d=>exact h
 |false=>exact n g
noncomputable abbrev LieQ(N m:Nat):Fl->R.St->Prop:=λr _=>∃d,r=.rt d/\flat N d=Γ/\∃x,d=lD x/\LyOk m x
section
variable{cf:CF}{T:R.St}{ax N m:Nat}{M:Int}{p:List Int}{w:Option Int}{t x0 x1 x2 x3 x4 x5:Int}{u0 u2 u3 u4 u8 u9 u10:Option D}
theorem zqB(b:M=m)(a:T.get ax=Φ (.lst [.int x0,.int x1,.int x2,.int x3,.int x4,.int x5]))(c:m<=7)(h:Pth m p)(g:wOk w)(d:1<=t)(f:t<=30) :
  W (exS cf (lieT 9) [u0,Φ (.int M),u2,u3,u4,Φ (.ref ax),Φ (pD p),Φ (oD w),u8,u9,Φ (.int t)] T) (LieQ N m):=by
 refine zdH (λ_=>True) (wT_W _ ?_) (λ_=>?_) (λ_=>zqE b a c h g d f);left;refine wOpt_of a ?_;left;refine wOpt_of rfl ?_;left;right;left;right;left;exact⟨rfl,trivial⟩;exact zaw rfl (za4 (zqE (w:=Ψ) b a c h (λi e=>by exact nS e) d f))
theorem zrY(b:M=m)(a:T.get ax=Φ (.lst [.int x0,.int x1,.int x2,.int x3,.int x4,.int x5]))(c:m<=7)(h:Pth m p)(e:wOk w)(f:1<=t)(g:t<=30) :
  W (exS cf (lieT 8) [u0,Φ (.int M),u2,u3,u4,Φ (.ref ax),Φ (pD p),Φ (oD w),u8,u9,Φ (.int t)] T) (LieQ N m):=by
 refine zdH (λ_=>True) (wT_W _ ?_) (λ_=>?_) (λ_=>zqB b a c h e f g);left;refine wOpt_of a ?_;left;refine wOpt_of rfl ?_;left;right;left;right;left;exact⟨rfl,trivial⟩;refine zaw (d:=.int (1+x5/128%30)) (S':=T) (W.eq (wE_W _ ?_)) (za4 ?_);left;refine wOpt_of a ?_;left;refine wOpt_of rfl ?_;left;right;left;right;left;exact⟨rfl,rfl⟩;exact zqB b a c h e (by lia) (by lia)
theorem zqC(a:M=m)(b:T.get ax=Φ (.lst [.int x0,.int x1,.int x2,.int x3,.int x4,.int x5]))(c:m<=7)(h:Pth m p)(e:wOk w) :
  W (exS cf (lieT 7) [u0,Φ (.int M),u2,u3,u4,Φ (.ref ax),Φ (pD p),Φ (oD w),u8,u9,u10] T) (LieQ N m):=by
 refine zaw (d:=.int p.length) (S':=T) (W.eq (wE_W _ ?_)) ?_;left;exact⟨by rw[length_map],rfl⟩;have:=h.l;have:=h.g;exact zrY a b c h e (by lia) (by lia)
theorem Pth.rev{m:Nat}{p:List Int}(h:Pth m p):Pth m p.reverse:=⟨h.h.perm (List.reverse_perm p),by rw[List.length_reverse];exact h.l,by rw[List.length_reverse];exact h.g⟩
theorem zqD(b:M=m)(a:T.get ax=Φ (.lst [.int x0,.int x1,.int x2,.int x3,.int x4,.int x5]))(c:m<=7)(h:Pth m p)(e:wOk w) :
  W (exS cf (lieT 6) [u0,Φ (.int M),u2,u3,u4,Φ (.ref ax),Φ (pD p),Φ (oD w),u8,u9,u10] T) (LieQ N m):=by
 refine zdH (λ_=>True) (wT_W _ ?_) (λ_=>?_) (λ_=>zqC b a c h e);left;refine wOpt_of a ?_;left;refine wOpt_of rfl ?_;left;right;left;exact⟨rfl,trivial⟩;refine zaw (d:=pD p.reverse) (S':=T) (W.eq (wE_W _ ?_)) (za4 ?_);left;refine wNeed_of rfl ?_;left;exact⟨by rw[<-List.map_reverse],rfl⟩;exact zqC b a c h.rev e
end
theorem Pth.snoc{m:Nat}{p:List Int}{o:Int}(h:Pth m p)(d:0<=o/\o<m)(f:o∉p)(g:p.length+1<m):Pth m (p++[o]):=by refine⟨⟨?_,?_⟩,by simp,by simpa using g⟩;rw[nodup_append];refine⟨h.h.1,by simp,?_⟩;intro a j b c e;rw[mem_singleton]at c;subst c;subst e;exact f j;intro i k;rcases mem_append.mp k with z|z;exact h.h.2 i z;rw[mem_singleton]at z;subst z;exact d
theorem LyOk.pth{m:Nat}{x:Ly}(h:LyOk m x):Pth m x.1.2.1:=by
 refine⟨⟨h.pn,h.pi⟩,h.p1,?_⟩;have:Hs m (x.1.2.1++[x.1.2.2]):=by refine⟨?_,?_⟩;rw[nodup_append];refine⟨h.pn,by simp,?_⟩;intro a d b c e;rw[mem_singleton]at c;subst c;subst e;exact h.hp d;intro i f;rcases mem_append.mp f with z|z;exact h.pi i z;rw[mem_singleton]at z;subst z;exact h.hi
 have:=this.len;rw[length_append,List.length_singleton]at this;lia
theorem zgv(p:List Int)(o:Int):D.tup (p.map D.int++[D.int o])=pD (p++[o]):=by simp
section
variable{cf:CF}{T:R.St}{ax N m:Nat}{M:Int}{p:List Int}{w:Option Int}{x0 x1 x2 x3 x4 x5:Int}{u0 u2 u3 u4 u8 u9 u10:Option D}
theorem zjN(a:M=m)(f:T.get ax=Φ (.lst [.int x0,.int x1,.int x2,.int x3,.int x4,.int x5]))(g:m<=7)(h:Pth m p)(i:wOk w) :
  W (exS cf (lieT 5) [u0,Φ (.int M),u2,u3,u4,Φ (.ref ax),Φ (pD p),Φ (oD w),u8,u9,u10] T) (LieQ N m):=by
 refine zdH (λb=>b=Γ->p.length+1<m) (wT_W _ ?_) (λn=>?_) (λ_=>zqD a f g h i);left;refine wOpt_of f ?_;left;refine wOpt_of rfl ?_;left;right;left;refine zcg (λc=>?_) (λc=>?_);left;refine⟨rfl,λe=>?_⟩;have:=of_decide_eq_true e;rw[length_map]at this;lia;left;exact⟨rfl,λe=>nB e⟩;have o:=n rfl;have j:=zjs h.h h.g;rw[<-a]at j;obtain⟨k,l,e⟩:=zdx (offL M p) (x3/2) j;obtain⟨q,r⟩:(0<=(offL M p)[k]/\(offL M p)[k]<M)/\(offL M p)[k]∉p:=by subst a;exact zdu (ϕ l)
 refine zaw (zqZ (by lia) (by lia)) (zaw (d:=pD (p++[(offL M p)[k]])) (S':=T.push (.lst ((offL M p).map .int))) (W.eq (wE_W _ ?_)) (za4 ?_));left;refine wOpt_of (zae f) ?_;left;refine wOpt_of rfl ?_;left;right;left;refine wOpt_of (zag _ _) ?_;left;refine wNeed_of (by simp;lia) ?_
 left;refine wOpt_of (zag _ _) ?_;left;rw[length_map,e];refine wOpt_of (zcp l) ?_;left;right;left;refine wNeed_of (by simp;lia) ?_;left;exact⟨zgv _ _,rfl⟩;subst a;exact zqD rfl (zae f) g (h.snoc q r o) i
theorem zrZ{tl:Nat}{f:List Ly}(i:M=m)(a:T.get ax=Φ (.lst [.int x0,.int x1,.int x2,.int x3,.int x4,.int x5]))(j:T.get tl=Φ (.lst (f.map lD)))(u:∀x∈f,LyOk m x)(l:m<=7)(h:Pth m p)(y:wOk w) :
  W (exS cf (lieT 4) [u0,Φ (.int M),u2,Φ (.ref tl),u4,Φ (.ref ax),Φ (pD p),Φ (oD w),u8,u9,u10] T) (LieQ N m):=by
 refine zdH (λb=>b=Γ->0<f.length) (wT_W _ ?_) (λn=>?_) (λ_=>zjN i a l h y);left;refine wOpt_of j ?_;left;refine zcg (λc=>?_) (λc=>?_);left;refine wOpt_of a ?_;left;refine wOpt_of rfl ?_;left;right;left;refine⟨rfl,λe=>?_⟩;rw[length_map]at c;lia;left;exact⟨rfl,λe=>nB e⟩;have z:=n rfl;obtain⟨k,g,e⟩:=zdx f x2 z;obtain⟨⟨⟨t,q,o⟩,v⟩,r⟩:∃x,x=f[k]:=⟨_,rfl⟩;have ok:=u _ (ϕ g);rw[<-r]at ok;have s:=ok.pth;refine zaw (d:=lD ((t,q,o),v)) (S':=T) (W.eq (wE_W _ ?_)) (zaw (d:=pD q) (S':=T) (W.eq (wE_W _ ?_)) (zaw (d:=oD v) (S':=T) (W.eq (wE_W _ ?_)) ?_));left;refine wOpt_of a ?_;left;refine wOpt_of rfl ?_;left;refine wOpt_of j ?_;left;refine wNeed_of (by simp;lia) ?_
 left;refine wOpt_of j ?_;left;rw[length_map,e];refine wOpt_of (zco (by rw[getElem?_map,Ε g,<-r];rfl)) ?_;left;exact⟨rfl,rfl⟩;left;refine wOpt_of rfl ?_;left;exact⟨rfl,rfl⟩;left;refine wOpt_of rfl ?_;left;exact⟨rfl,rfl⟩;refine zdH (λb=>b=Γ->q.length+1<m) (wT_W _ ?_) (λn=>?_) (λ_=>za4 ?_);left;refine wOpt_of a ?_;left;refine wOpt_of rfl ?_;left;right;left;refine zcg (λc=>?_) (λc=>?_);left;refine⟨rfl,λe=>?_⟩;have:=of_decide_eq_true e;rw[length_map]at this;lia;left;exact⟨rfl,λe=>nB e⟩;refine zaw (d:=pD (q++[o])) (S':=T) (W.eq (wE_W _ ?_)) (za4 (za4 ?_));left;refine wOpt_of rfl ?_;left;right;left;refine wNeed_of (by simp;lia) ?_;left;exact⟨zgv _ _,rfl⟩;exact zjN i a l (s.snoc ok.hi ok.hp (n rfl)) ok.wd;exact zjN i a l s ok.wd
end
theorem zkE{P:List Fn}{F:Fn}{f n:Nat}{c:List D}{S:R.St}{B:D->Prop}(h:P[f]?=Φ F)(i:c.length=F.np)(w:W (exS (callF P n) F.body (zaP F c) S.enter) λr T=>∃d,r=.rt d/\flat S.len d=Γ/\B d)(j:F.prim=Ψ:=by rfl) :
  ∃d,B d/\app (callF P (n+1)) f c S=.ok d S:=by
 have:W (app (callF P (n+1)) f c S) λa g=>B a/\g=S:=by rw[zf9 h i j,zab];refine w.mono λr T q=>?_;obtain⟨d,rfl,k,l⟩:=q;have:=zah (T:=T) (Q:=λa g=>B a/\g=S) k ⟨l,rfl⟩;unfold wFin at this;exact this
 obtain⟨a,T,e,b,rfl⟩:=W_ex this;exact⟨a,b,e⟩
theorem zoq(x y:Int):∃z,atI [D.int 0,D.int 0,D.int 0,D.int x] (y%4)=Φ (.int z):=by rcases(show y%4=0\/y%4=1\/y%4=2\/y%4=3 by lia) with h|h|h|h;exact⟨0,by rw[h];rfl⟩;exact⟨0,by rw[h];rfl⟩;exact⟨0,by rw[h];rfl⟩;exact⟨x,by rw[h];rfl⟩
theorem zpA{n tl wl:Nat}{S:R.St}{c s M:Int}{m:Nat}{l:List Int}{A:List Ly}(B:M=m)(T:2<=m)(I:m<=7)(J:S.get wl=Φ (.lst (l.map .int)))(y:Wd l)(U:S.get tl=Φ (.lst (A.map lD)))(Y:∀x∈A,LyOk m x) :
  ∃d,(∃x,d=lD x/\LyOk m x)/\app (callF prog (n+2)) 16 [.int c,.int M,.int s,.ref tl,.ref wl] S=.ok d S:=by
 refine zkE (F:=c_law_lie) rfl rfl ?_;refine zdH (λ_=>True) (wT_W _ ?_) (λ_=>wS_W _ ?_) (λ_=>?_);left;right;left;exact⟨rfl,trivial⟩;obtain⟨d,⟨x,L,e2⟩,e⟩:=zpB (n:=n) (S:=S.enter) (c:=c/2) T I (by rw[zaB];exact J) y;subst B;left;right;left;refine wOut_of e ?_;left;exact⟨d,rfl,by rw[L];exact zdK _ _,x,L,e2⟩;obtain⟨rs,⟨N,rfl,hx⟩,e⟩:=zno (n:=n) (S:=S.enter) (c:=c/2);obtain⟨g,o,h,q,r,t,rfl⟩:∃g o h q r t,N=[g,o,h,q,r,t]:=by match N,hx with| [a,b,c,d,e,f],_=>exact⟨a,b,c,d,e,f,rfl⟩
 obtain⟨z,hz⟩:=zoq h (g/64);have C:S.enter.get wl=Φ (.lst (l.map .int)):=by rw[zaB];exact J
 have E:S.enter.get tl=Φ (.lst (A.map lD)):=by rw[zaB];exact U
 obtain⟨k,u,O⟩:=zdx l g (by rw[y.1];lia);rw[y.1]at O;let G:=S.enter.push (.lst [.int g,.int o,.int h,.int q,.int r,.int t]);let H:=G.push (.lst [.int 0,.int 0,.int 0,.int h]);have j:G.get S.enter.len=Φ (.lst [.int g,.int o,.int h,.int q,.int r,.int t]):=zag _ _;have v:H.get S.enter.len=Φ (.lst [.int g,.int o,.int h,.int q,.int r,.int t]):=zae j;refine zaw (d:=.ref S.enter.len) (S':=G) (W.eq (wE_W _ ?_)) (zaw (d:=pD [(s+z)%M]) (S':=H) (W.eq (wE_W _ ?_)) (zaw (d:=oD (Φ l[k])) (S':=H) (W.eq (wE_W _ ?_)) ?_));left;right;left;refine wOut_of e ?_;left;exact⟨rfl,rfl⟩;left;refine wOpt_of j ?_;left;refine wOpt_of rfl ?_;left;right;left;refine wOpt_of (zae j) ?_;left;refine wOpt_of rfl ?_;left;right;left;right;left;refine wOpt_of (zag _ _) ?_;left;refine wOpt_of hz ?_;left;refine wNeed_of (by lia) ?_
 left;right;left;exact⟨rfl,rfl⟩;left;refine wOpt_of v ?_;left;refine wOpt_of rfl ?_;left;right;left;refine wOpt_of (zae (zae C)) ?_;left;rw[show g%4=(k:Int) from O];refine wOpt_of (zcp u) ?_;left;exact⟨rfl,rfl⟩;refine zrZ (p:=[(s+z)%M]) (w:=Φ l[k]) B v (zae (zae E)) Y I ⟨⟨by simp,?_⟩,by simp,by simp;lia⟩ ?_;intro i Q;rw[mem_singleton]at Q;subst Q;have h1:=emod_nonneg (s+z) (show M≠0 by lia);have h2:=Int.emod_lt_of_pos (s+z) (show 0<M by lia);subst B;exact⟨h1,h2⟩;intro i e;cases e;exact y.2 _ (ϕ u)
theorem znq{n cl wl:Nat}{S:R.St}{s:Int}{m:Nat}{l cs:List Int}(E:1<=m)(v:m<=7)(w:S.get wl=Φ (.lst (l.map .int)))(A:Wd l)(o:S.get cl=Φ (.lst (cs.map .int)))(G:cs.length<=57) :
  ∃p,(∃b:List Ly,p=b.map lD/\b.length<=57/\∀x∈b,LyOk m x)/\app (callF prog (n+3)) 17 [.ref cl,.int m,.int s,.ref wl] S=.ok (.ref S.len) (S.push (.lst p)):=by
 refine ze9 (F:=zeq) rfl rfl ?_;left;right;left;refine zcg (λc=>?_) (λc=>?_);left;refine zbU o ?_;left;refine zam ?_;refine W.mono (zal (λi k T=>∃(u:Option D) (b:List Ly),k=[Φ (.ref cl),Φ (.int m),Φ (.int s),Φ (.ref wl),Φ (.ref ((S.frz++S.new).length+0)),u]/\b.length=i/\(∀x∈b,LyOk m x)/\T=⟨S.frz++S.new,[.lst (b.map lD)],[cl]⟩) (λ_ _=>False) _ 0 _ _ ⟨Ψ,[],rfl,rfl,by simp,rfl⟩ ?_) ?_;rintro i z k T h ⟨u,b,rfl,r,j,rfl⟩;rw[getElem?_map]at h;cases g:cs[i]? with
 |none=>rw[g]at h;exact nS h
 |some y=>
  rw[g]at h;cases h;have H:i<cs.length:=(Β.mp g).1;obtain⟨d,⟨x,rfl,ok⟩,e⟩:=zpA (n:=n) (S:=⟨S.frz++S.new,[.lst (b.map lD)],[cl]⟩) (c:=y%10^64) (s:=s) (tl:=(S.frz++S.new).length+0) rfl (by lia) v (zeY w _ _) A (zcl _ _ _ 0) j;refine⟨_,rfl,wS_W _ ?_⟩;have B:=get_lt o;left;refine zaW rfl ?_;left;right;left;right;left;refine wOut_of e ?_;left;refine zaW rfl ?_;left;refine wNeed_of (by simp;lia) ?_
  left;refine zc2 (by simp[St.len]at B⊢;lia) ?_;left;refine⟨_,b++[x],rfl,by simp;lia,?_,by simp⟩;intro a C;rcases mem_append.mp C with q|q;exact j a q;rw[mem_singleton]at q;subst q;exact ok
 rintro f T t;cases f with|rt d=>exact t.elim| nx k=>obtain⟨u,b,rfl,r,j,rfl⟩:=t;left;refine⟨_,_,rfl,?_,zcl _ _ _ 0,zhq _ b,b,rfl,?_,j⟩;simp[St.len];simp at r;lia
 left;refine⟨_,_,rfl,?_,zcl _ _ _ 0,zhq _ [],[],rfl,by simp,by simp⟩;simp[St.len]
theorem ziB{S T:R.St}{a:List D}{Q:D->R.St->Prop}(h:flat S.len (.tup a)=Δ)(q:Q (.tup a) ⟨S.frz,S.new++T.new,S.lk⟩):wFin S (.rt (.tup a)) T Q:=by unfold wFin;rw[zhs];unfold zcN;simp only[h];exact q
theorem zdO{a c:Type}(f:a->c)(xs:List a)(lo b:Option Int):cut (xs.map f) lo b=(cut xs lo b).map f:=by unfold cut;rw[length_map,List.map_take,List.map_drop]
theorem zmF{a:Type}(xs:List a):(cut xs (Φ 5) (Φ 62)).length<=57:=by unfold cut;rw[length_take,List.length_drop];have b:R.sIx xs.length 0 (Φ 5)=min 5 xs.length:=rfl;have c:R.sIx xs.length xs.length (Φ 62)=min 62 xs.length:=rfl;rw[b,c];omega
structure Scr(m:Nat)(b s w:Int)(hs:List Int)(Ls:List Ly):Prop where
 m1:1<=m
 m7:m<=7
 b0:0<=b
 b5:b<=5
 s0:0<=s
 sm:s<m
 wd:-10^60<w/\w<10^60
 hl:hs.length<=7
 hi:∀i∈hs,0<=i/\i<m
 ll:Ls.length<=57
 lk:∀x∈Ls,LyOk m x
theorem zi0{n:Nat}{S:R.St}{ns:List Int}:∃(m:Nat) (b s w:Int) (d a cs:List Int) (f:List Ly),Scr m b s w d f/\
  app (callF prog (n+4)) 19 [.fix (ns.map .int)] S=.ok (.tup [.int m,.int b,.ref S.len,.int s,.int w,.ref (S.len+3)]) ⟨S.frz,S.new++[.lst (d.map .int),.lst (a.map .int),.lst (cs.map .int),.lst (f.map lD)],S.lk⟩:=by
 obtain⟨m,u⟩:∃m:Nat,1+zbP ns 0%7=m:=⟨(1+zbP ns 0%7).toNat,by lia⟩;have p:1<=m:=by lia
 have h:m<=7:=by lia
 obtain⟨v,⟨d,rfl,B,x⟩,j⟩:=zpx (n:=n+2) (S:=S.enter) (c:=zbP ns 1) h;let a:=[bigZ (zbP ns 3),bigZ (zbP ns 4),0,zbP ns 4%5-2];have q:Wd a:=by refine⟨rfl,λi r=>?_⟩;simp only[a,mem_cons,not_mem_nil,or_false]at r;rcases r with rfl|rfl|rfl|rfl;exact zmH _;exact zmH _;lia;lia
 let cs:=cut ns (Φ 5) (Φ 62);let e:=S.enter.push (.lst (d.map .int));let g:=e.push (.lst (a.map .int));let l:=g.push (.lst (cs.map .int));obtain⟨v,⟨f,rfl,y,z⟩,o⟩:=znq (n:=n) (S:=l) (s:=zbP ns 2%m) (cl:=g.len) (wl:=e.len) (cs:=cs) p h (zae (zag _ _)) q (zag _ _) (zmF ns);obtain⟨k,t,A⟩:=zdx a (zbP ns 2/7) (by simp[a]);refine⟨m,zbP ns 0/7%6,zbP ns 2%m,a[k],d,a,cs,f,⟨p,h,by lia,by lia,emod_nonneg _ (by lia),Int.emod_lt_of_pos _ (by lia),q.2 _ (ϕ t),by lia,x,y,z⟩,?_⟩;refine zaZ (F:=zcD) rfl rfl ?_;left;refine wOut_of (zb8 (n:=n+2) (k:=0)) ?_;left;right;left;rw[u];left;refine wOut_of (zb8 (n:=n+2) (k:=1)) ?_;left;refine wOut_of j ?_;left;refine wOut_of (zb8 (n:=n+2) (k:=2)) ?_;left;refine wNeed_of (by lia) ?_
 left;refine wOut_of (zb8 (n:=n+2) (k:=3)) ?_;left;refine wOut_of ((zpC (n:=n+2))) ?_;left;refine wOut_of (zb8 (n:=n+2) (k:=4)) ?_;left;refine wOut_of ((zpC (n:=n+2))) ?_;left;refine wOut_of (zb8 (n:=n+2) (k:=4)) ?_;left;right;left;right;left;rw[zdO];refine wNeed_of (by rw[length_map];have:=zmF ns;lia) ?_
 left;refine wOut_of o ?_;left;refine wOut_of (zb8 (n:=n+2) (k:=0)) ?_;left;right;left;right;left;refine wOut_of (zb8 (n:=n+2) (k:=2)) ?_;left;right;left;right;left;refine wOpt_of (zae (zae (zag e (.lst (a.map .int))))) ?_;left;rw[show zbP ns 2/7%4=(k:Int) from A];refine wOpt_of (zcp t) ?_;left;right;left;refine ziB ?_ ⟨?_,?_⟩;simp[flat,flats,St.len,St.enter];simp[St.len,St.enter,l,g,e,St.push];simp[l,g,e,St.push,St.enter]
theorem zk6{n:Nat}{S:R.St}{ns:List Int}{b:Int}(a:0<=b)(d:b<=5):∃(r:Option Int) (l:Int),(1<=l/\l<=8)/\(match r with|none=>l=b+1|some z=>z=l)/\app (callF prog (n+2)) 20 [.fix (ns.map .int),.int b] S=.ok (.tup [oD r,.int l]) S:=by by_cases c:zbP ns 2/28%2=0;refine⟨Ψ,b+1,by lia,rfl,zaZ (F:=zbR) rfl rfl ?_⟩;left;refine wOut_of (zb8 (n:=n) (k:=2)) ?_;left;right;left;right;left;refine zhF (by simpa using c) ?_;left;right;left;exact zah (by simp[flat,flats,oD]) ⟨rfl,rfl⟩;refine⟨Φ (1+zbP ns 2/28/2%8),1+zbP ns 2/28/2%8,by lia,rfl,zaZ (F:=zbR) rfl rfl ?_⟩;left;refine wOut_of (zb8 (n:=n) (k:=2)) ?_;left;right;left;right;left;refine ziA (by simpa using c) ?_;left;right;left;right;left;right;left;right;left;right;left;exact zah (by simp[flat,flats,oD]) ⟨rfl,rfl⟩
theorem zbi{S T:R.St}{x:D}{f:PySem.Str}{v:D}(h:zbF S x f v=Φ T):T.len=S.len:=by unfold zbF at h;split at h;split at h;split at h;unfold St.put at h;split at h;exact nS h;split at h;exact nS h;cases h;simp[St.len];exact nS h;exact nS h;exact nS h
noncomputable def sD(m b:Int)(X Y:D):MO:=.ins 2 [("many",.int m),("bound",.int b),("liars",X),("lies",Y)]
theorem zn0{n a:Nat}{S:R.St}{m b:Int}{x y X Y:D}(e:S.get a=Φ (.ins 2 []))(h:Fr S a)(p:1<=m)(q:m<=7)(r:0<=b)(s:b<=5)
  (t:∀T,Mv [a] S T->app (callF prog (n+5)) 7 [.int m,x] T=.ok X T) (u:∀T,Mv [a] S T->app (callF prog (n+5)) 8 [.int m,y] T=.ok Y T) :
  W (appW (callF prog (n+6)) 34 [.ref a,.int m,.int b,x,y] S) λd T=>d=.non/\Mv [a] S T/\T.len=S.len/\T.get a=Φ (sD m b X Y):=by
 refine zcH (F:=zbm) rfl rfl (wS_W _ ?_);left;refine wOut_of (zgg (n:=n+3) p q) ?_;left;obtain⟨H,j,c,w⟩:=zb7 (f:="many") (v:=.int m) (gs:=[("many",.int m)]) e h (by simp) rfl;refine wOpt_of j ?_;left;refine wOut_of (zgg (n:=n+3) r s) ?_;left;obtain⟨z,k,g,A⟩:=zb7 (f:="bound") (v:=.int b) (gs:=[("many",.int m),("bound",.int b)]) w (h.mv c) (by simp) rfl;refine wOpt_of k ?_;left;refine wOut_of (t z (c.trans g)) ?_;left;obtain⟨B,l,i,C⟩:=zb7 (f:="liars") (v:=X) (gs:=[("many",.int m),("bound",.int b),("liars",X)]) A ((h.mv c).mv g) (by simp) rfl;refine wOpt_of l ?_;left;refine wOut_of (u B ((c.trans g).trans i)) ?_;left;obtain⟨I,o,E,G⟩:=zb7 (f:="lies") (v:=Y) (gs:=[("many",.int m),("bound",.int b),("liars",X),("lies",Y)]) C (((h.mv c).mv g).mv i) (by simp) rfl;refine wOpt_of o ?_;left;exact⟨rfl,((c.trans g).trans i).trans E,by rw[zbi o,zbi l,zbi k,zbi j],G⟩
theorem zhO{n:Nat}{S:R.St}{r:Option Int}{b l:Int}(a:1<=l)(c:l<=8)(h:match r with|none=>l=b+1|some z=>z=l):app (callF prog (n+3)) 11 [oD r,.int b] S=.ok (.int l) S:=by refine zaZ (F:=zdS) rfl rfl ?_;cases r with| none=>subst h;left;exact zah rfl ⟨rfl,rfl⟩| some z=>subst h;left;refine wOut_of (zgg (n:=n) a c) ?_;left;exact zah rfl ⟨rfl,rfl⟩
theorem zk5{n:Nat}{S:R.St}{i:Int}(h:-10^60<i/\i<10^60):app (callF prog (n+3)) 5 [.int i] S=.ok (.int i) S:=by refine zaZ (F:=zfX) rfl rfl ?_;left;refine wOut_of (zmi (n:=n) h) ?_;left;exact zah rfl ⟨rfl,rfl⟩
theorem znB{T:R.St}{l:Nat}{o u:MO}(a:Fr T l)(e:T.get l=Φ o):∃U,T.put l u=Φ U/\Mv [l] T U/\U.len=T.len/\U.get l=Φ u:=by obtain⟨U,b,c,d,f,g,h⟩:=zeK u a.f a.k;exact⟨U,b,⟨c,d,by lia,λm x i e=>by rw[g m (by simpa using i)];exact e⟩,f,h (get_lt e)⟩
noncomputable def bkD(ad:Nat):MO:=.ins 0 [("made",.ref ad)]
theorem key3_of(h:Int)(p:List Int)(w:Int):key3 (.tup [.int h,pD p,.int w])=Φ (h,p,w):=by unfold key3;dsimp only;rw[zba];rfl
theorem znZ{S:R.St}{n b ad:Nat}{a:List (K3×D)}{h w:Int}{p:List Int}(f:S.get b=Φ (bkD ad))(c:S.get ad=Φ (.d3 a))(g:Fr S ad)(i:a.length<16777216) :
  W (appW (callF prog (n+1)) 26 [.ref b,.int h,pD p,.int w] S) λd T=>d=.non/\Mv [ad] S T/\T.len=S.len/\T.get ad=Φ (.d3 (zbH a (h,p,w) (.bl Γ))):=by
 refine zcH rfl rfl (wS_W _ ?_);left;refine wOpt_of (zaH f rfl) ?_;left;right;left;obtain⟨U,j,k,l,m⟩:=znB g c;have e:dPut S (.ref ad) (.tup [.int h,pD p,.int w]) (.bl Γ)=Φ U:=by unfold dPut;dsimp only;rw[c];dsimp only;rw[key3_of,bind_some,if_pos i,j]
 refine wOpt_of e ?_;left;exact⟨rfl,k,l,m⟩
noncomputable abbrev ks3(a:List (K3×D)):List K3:=a.map (·.1)
theorem zld{a:List (K3×D)}{k x:K3}{v:D}:x∈ks3 (zbH a k v)↔x=k\/x∈ks3 a:=by
 unfold zbH ks3;by_cases c:k∈a.map (·.1);rw[if_pos c,map_map];have:((λx:K3×D=>x.1)∘λx=>if x.1=k then(x.1,v) else x)=λx=>x.1:=by funext x;show(if x.1=k then(x.1,v) else x).1=x.1;split<;>rfl
 rw[this];constructor;exact .inr;rintro(e|e);rw[e];exact c;exact e;rw[if_neg c,map_append];simp;exact Or.comm
noncomputable abbrev Up3(b a:List (K3×D)):Prop:=(ks3 b).Nodup->(ks3 a).Nodup
theorem znD{d:List (K3×D)}{k:K3}{v:D}:Up3 d (zbH d k v):=λh=>by
 unfold zbH ks3;by_cases c:k∈d.map (·.1);rw[if_pos c,map_map];have:((λx:K3×D=>x.1)∘λx=>if x.1=k then(x.1,v) else x)=λx=>x.1:=by funext x;show(if x.1=k then(x.1,v) else x).1=x.1;split<;>rfl
 rw[this];exact h;rw[if_neg c,map_append];refine nodup_append.mpr ⟨h,by simp,λa f b g=>?_⟩;have:b=k:=by simpa using g
 subst this;exact λe=>c (e▸f)
theorem zrU{S:R.St}{n b ad:Nat}{a:List (K3×D)}{h w:Int}{p:List Int}(c:S.get b=Φ (bkD ad))(d:S.get ad=Φ (.d3 a)) :
  appW (callF prog (n+1)) 25 [.ref b,.int h,pD p,.int w] S=.ok (.bl (decide ((h,p,w)∈ks3 a))) S:=by
 have e:cmpO S .In (.tup [.int h,pD p,.int w]) (.ref ad)=Φ (decide ((h,p,w)∈ks3 a)):=by unfold cmpO zfJ;rw[show d3K S (.ref ad)=Φ a by unfold d3K;dsimp only;rw[d]];rw[key3_of];rfl
 refine zdV rfl rfl ?_;left;right;left;refine wOpt_of (zaH c rfl) ?_;left;refine wOpt_of e ?_;left;exact⟨rfl,rfl⟩
theorem zo3{cf:CF}{e:CE}{T:R.St}{rest:Ev}(B:Int×Int->Bool):∀(xs:List (Int×Int))(u v:Option D),(∀x∈xs,evE cf e (Φ (.int x.1)::Φ (.int x.2)::rest) T=.ok (.bl (B x)) T)->
  zax [0,1] (evT cf (.tst (.con (.bl Γ)))) (evE cf e) (xs.map λx=>zcx (.int x.1) (.int x.2)) (u::v::rest) T=.ok ((xs.map B).map .bl) T
 | [],_,_,_=>rfl| x::xs,u,v,a=>by have b:=zo3 B xs (Φ (.int x.1)) (Φ (.int x.2)) λz c=>a z (Ν _ c);have d:=a x Ρ;unfold zax;show Out.bind (.ok Γ T) _=_;show Out.bind (evE cf e (Φ (.int x.1)::Φ (.int x.2)::rest) T) _=_;rw[d];show Out.bind (zax [0,1] _ _ (xs.map _) (Φ (.int x.1)::Φ (.int x.2)::rest) T) _=_;rw[b];rfl
theorem zfQ(p:List Int):(p.map D.int).mapIdx (λi d=>zcx (.int (i:Nat)) d)=(p.mapIdx λ(i:Nat) q=>((i:Int),q)).map λx=>zcx (.int x.1) (.int x.2):=by refine ext_getElem? λi=>?_;rw[List.getElem?_mapIdx,getElem?_map,getElem?_map,List.getElem?_mapIdx];cases p[i]?<;>rfl
theorem zkI(bs:List Bool):allD (bs.map .bl)=Φ (bs.all id):=by
 unfold allD;have:(bs.map D.bl).mapM zev=Φ bs:=by induction bs with|nil=>rfl|cons q b a=>rw[ϋ,mapM_cons,a];rfl
 rw[this];rfl
theorem zfU{a:Type}(xs:List a)(i:Nat):cut xs Ψ (Φ (i:Int))=xs.take i:=by unfold cut;rw[show sIx xs.length 0 Ψ=0 from rfl,List.drop_zero,Nat.sub_zero];unfold sIx;dsimp only;rw[if_neg (by lia),ϡ,<-List.take_eq_take_min]
noncomputable def gdB(a:List (K3×D))(p:List Int)(w:Int):Bool:=((p.mapIdx λ(i:Nat) q=>((i:Int),q)).map λx=>decide ((x.2,cut p Ψ (Φ x.1),w)∈ks3 a)).all id
theorem zon{a:List (K3×D)}{p:List Int}{w:Int}:gdB a p w=Γ↔∀(i:Nat)(h:Int),p[i]?=Φ h->(h,p.take i,w)∈ks3 a:=by unfold gdB;rw[List.all_map,all_eq_true];constructor;intro q i h e;have:=q ((i:Int),h) (mem_of_getElem? (by rw[List.getElem?_mapIdx,e];rfl));rw[<-zfU];exact of_decide_eq_true this;intro q x b;obtain⟨i,c,rfl⟩:=List.mem_mapIdx.mp b;refine decide_eq_true ?_;rw[zfU];exact q i _ (Ε c)
theorem zrV{S:R.St}{n ab ad:Nat}{kvs:List (K3×D)}{w:Int}{p:List Int}(gb:S.get ab=Φ (bkD ad))(gd:S.get ad=Φ (.d3 kvs))(pl:p.length<=100) :
  appW (callF prog (n+2)) 24 [.ref ab,pD p,.int w] S=.ok (.bl (gdB kvs p w)) S:=by
 have hb:=zo3 (cf:=callF prog (n+1)) (e:=.meth "has" [(0,25)] J3 #[J1,.sl J4 Δ Γ (.con .non) J0,J2]) (T:=S) (rest:=[Φ (.int w),Φ (.ref ab),Φ (pD p)]) (λx=>decide ((x.2,cut p Ψ (Φ x.1),w)∈ks3 kvs)) (p.mapIdx λ(i:Nat) q=>((i:Int),q)) Ψ Ψ (λx hx=>by have hb:=zrU (n:=n) (h:=x.2) (p:=cut p Ψ (Φ x.1)) (w:=w) gb gd;refine W.eq (wE_W _ ?_);left;refine wOpt_of (zaJ gb) ?_;left;refine wOpt_of rfl ?_;left;refine wNeed_of rfl ?_;left;rw[zdO];refine wOut_of hb ?_;left;exact⟨rfl,rfl⟩);refine zdV rfl rfl ?_;left;refine wOpt_of ((show zdM S (pD p)=Φ ((p.map D.int).mapIdx (λi d=>zcx (.int (i:Nat)) d),[]) from rfl)) ?_;left;rw[zfQ];refine zam ?_;refine W.of hb ?_;refine wNeed_of (by rw[length_map,length_map,length_mapIdx];lia) ?_
 left;refine wOpt_of (zkI _) ?_;left;exact⟨rfl,rfl⟩
noncomputable def wrL(t:Int)(a:List Ly):List KP:=a.filterMap λx=>if x.1.1=t then x.2.map λw=>(x.1.2.1,x.1.2.2,w) else Ψ
theorem t_wr{cf:CF}{T:R.St}{t:Int}:∀(Ls:List Ly)(u:Option D),
  zax [0] (evT cf (.and (.cmp .Eq (.ix J0 U0) J1) (.cmp .IsNot (.ix J0 U3) (.con D.non)))) (evE cf (.sl J0 Γ Δ U1 (.con .non))) (Ls.map lD) [u,Φ (.int t)] T=.ok ((wrL t Ls).map lpD) T
 | [],_=>rfl| x::Ls,u=>by
  have ih:=t_wr (cf:=cf) (T:=T) (t:=t) Ls (Φ (lD x));obtain⟨⟨tt,p,o⟩,w⟩:=x;show Out.bind (evT cf (.and (.cmp .Eq (.ix J0 U0) J1) (.cmp .IsNot (.ix J0 U3) (.con D.non))) [Φ (lD ((tt,p,o),w)),Φ (.int t)] T) _=_;have e:evT cf (.and (.cmp .Eq (.ix J0 U0) J1) (.cmp .IsNot (.ix J0 U3) (.con D.non))) [Φ (lD ((tt,p,o),w)),Φ (.int t)] T=.ok (decide (tt=t)&&w.isSome) T:=by
   refine W.eq (wT_W _ ?_);left;refine wOpt_of rfl ?_;left;refine zcg (λc=>?_) (λc=>?_);left;refine wOpt_of rfl ?_;left;cases w with|none=>exact⟨by simp;rfl,rfl⟩|some w=>exact⟨by rw[show tt=t from c];simp;rfl,rfl⟩
   exact⟨by rw[decide_eq_false (show ¬tt=t from c)];rfl,rfl⟩
  rw[e,zaC];by_cases c:tt=t;cases w with| none=>simp only[c];show zax [0] _ _ (Ls.map lD) [Φ (lD ((t,p,o),Ψ)),Φ (.int t)] T=_;have ih:=t_wr (cf:=cf) (T:=T) (t:=t) Ls (Φ (lD ((t,p,o),Ψ)));rw[ih];simp[wrL]| some w=>simp only[c,decide_true,Option.isSome_some,Bool.and_true,if_true];have e2:evE cf (.sl J0 Γ Δ U1 (.con .non)) [Φ (lD ((t,p,o),Φ w)),Φ (.int t)] T=.ok (lpD (p,o,w)) T:=rfl;show Out.bind (evE cf (.sl J0 Γ Δ U1 (.con .non)) [Φ (lD ((t,p,o),Φ w)),Φ (.int t)] T) _=_;rw[e2];show Out.bind (zax [0] _ _ (Ls.map lD) [Φ (lD ((t,p,o),Φ w)),Φ (.int t)] T) _=_;have ih:=t_wr (cf:=cf) (T:=T) (t:=t) Ls (Φ (lD ((t,p,o),Φ w)));rw[ih];simp[wrL]
  simp only[c];show zax [0] _ _ (Ls.map lD) [Φ (lD ((tt,p,o),w)),Φ (.int t)] T=_;rw[ih];simp[wrL,c]
theorem put3_len(a:List (K3×D))(k:K3)(v:D):(zbH a k v).length<=a.length+1:=by unfold zbH;split<;>simp
noncomputable def zr0:CS:=.forS [7,8] (.enum J4) (.ifS (.cmp .In J8 (.fld J1 "liars")) (.expr (.meth "stamp" [(0,26)] (.fld J0 "book") #[J8,.sl J4 Δ Γ (.con .non) J7,J6]) .nil) .nil .nil) .nil
noncomputable def SL(a:List Int)(p:List Int)(w:Int)(j:Nat)(x:K3):Prop:=∃(i:Nat) (h:Int),i<j/\p[i]?=Φ h/\h∈a/\x=(h,p.take i,w)
section
variable{n a as ab ad:Nat}{m b t:Int}{fs:List (PySem.Str×D)}{lz:List Int}{Ls:List Ly}
structure Bk(a as ab ad:Nat)(fs:List (PySem.Str×D))(sd:MO)(S:R.St):Prop where
 ga:S.get a=Φ (.ins 1 fs)
 fb:fs.lookup ("book":PySem.Str)=Φ (.ref ab)
 gs:S.get as=Φ sd
 gb:S.get ab=Φ (bkD ad)
 hf:Fr S ad
 n1:ab≠ad
 n2:a≠ad
 n3:as≠ad
theorem Bk.mv{c:MO}{A:List Nat}{S T:R.St}(h:Bk a as ab ad fs c S)(v:Mv A S T)(q:a∉A/\as∉A/\ab∉A):Bk a as ab ad fs c T:=⟨v.old _ _ q.1 h.ga,h.fb,v.old _ _ q.2.1 h.gs,v.old _ _ q.2.2 h.gb,h.hf.mv v,h.n1,h.n2,h.n3⟩
theorem Bk.one{c:MO}{S T:R.St}(h:Bk a as ab ad fs c S)(v:Mv [ad] S T):Bk a as ab ad fs c T:=h.mv v ⟨by simpa using h.n2,by simpa using h.n3,by simpa using h.n1⟩
theorem zfe{S:R.St}{e:List (K3×D)}{h w:Int}{p:List Int}{f:MO}(B:Bk a as ab ad fs f S)(g:S.get ad=Φ (.d3 e))(i:e.length<16777216) :
  W (appW (callF prog (n+1)) 26 [.ref ab,.int h,pD p,.int w] S) λd T=>d=.non/\Mv [ad] S T/\T.len=S.len/\∃c,T.get ad=Φ (.d3 c)/\c.length<=e.length+1/\Up3 e c/\∀x,x∈ks3 c↔x=(h,p,w)\/x∈ks3 e:=
 (znZ B.gb g B.hf i).mono λd T z=>(by obtain⟨j,k,l,o⟩:=z;exact ⟨j,k,l,_,o,put3_len _ _ _,znD,λx=>zld⟩)
theorem zoh{S:R.St}{Q:D}{p:List Int}{o w:Int}{u7 u8:Option D}{r:List (K3×D)}(B:Bk a as ab ad fs (sD m b (pD lz) (.tup (Ls.map lD))) S)(gd:S.get ad=Φ (.d3 r))(hl:r.length<=1000000)(hp:p.length<=7) :
  W (exS (callF prog (n+1)) zr0 [Φ (.ref a),Φ (.ref as),Φ (.int t),Φ Q,Φ (pD p),Φ (.int o),Φ (.int w),u7,u8] S) λf T=>match f with|.nx H=>(∃u v,H=[Φ (.ref a),Φ (.ref as),Φ (.int t),Φ Q,Φ (pD p),Φ (.int o),Φ (.int w),u,v])/\Mv [ad] S T/\∃l,T.get ad=Φ (.d3 l)/\l.length<=r.length+7/\Up3 r l/\∀x,x∈ks3 l↔x∈ks3 r\/SL lz p w p.length x|.rt _=>False:=by
 refine zc7 (xs:=(p.mapIdx λ(i:Nat) q=>((i:Int),q)).map λx=>zcx (.int x.1) (.int x.2)) (ls:=[]) (S1:=S) ?_ ?_;rw[<-zfQ];rfl;refine W.mono (zal (λi H T=>(∃u v,H=[Φ (.ref a),Φ (.ref as),Φ (.int t),Φ Q,Φ (pD p),Φ (.int o),Φ (.int w),u,v])/\Mv [ad] S T/\∃l,T.get ad=Φ (.d3 l)/\l.length<=r.length+i/\Up3 r l/\∀x,x∈ks3 l↔x∈ks3 r\/SL lz p w i x) (λ_ _=>False) _ 0 _ _ ⟨⟨u7,u8,rfl⟩,Mv.refl _ _,r,gd,le_refl _,id,λx=>⟨.inl,λz=>z.elim id λz'=>(by obtain⟨i,_,h,_⟩:=z';exact absurd h (Nat.not_lt_zero _))⟩⟩ ?_) ?_;rintro i z H T G ⟨⟨u,v,rfl⟩,C,l,g,gl,L,M⟩;have hi:=(Β.mp G).1;rw[length_map,length_mapIdx]at hi;rw[getElem?_map]at G;cases s:(p.mapIdx λ(i:Nat) q=>((i:Int),q))[i]? with
 |none=>rw[s]at G;exact nS G
 |some x=>
  rw[s]at G;cases G;have pe:x.1=(i:Int)/\p[i]?=Φ x.2:=by
   rw[List.getElem?_mapIdx]at s;cases e:p[i]? with
   |none=>rw[e]at s;exact nS s
   |some q=>rw[e]at s;cases s;exact⟨rfl,rfl⟩
  obtain⟨Y,E⟩:=pe;have I:=B.one C;refine⟨_,rfl,wS_W _ ?_⟩;left;refine wOpt_of (zaH I.gs rfl) ?_;left;refine wOpt_of (zj5 _ _ _) ?_;left;refine zcg (λc=>?_) (λc=>?_);left;refine wOpt_of (zaH I.ga I.fb) ?_;left;refine wOpt_of (zaJ I.gb) ?_;left;refine wOpt_of rfl ?_;left;refine wNeed_of rfl ?_;left;rw[zdO];refine zb6 ((zfe I g (by lia)).mono λd U k=>?_);obtain⟨q1,q2,q3,kv2,q4,q5,q5u,q6⟩:=k;left;refine⟨⟨_,_,rfl⟩,C.trans q2,kv2,q4,by lia,λz=>q5u (L z),λy=>?_⟩;rw[q6,M,Y,zfU];constructor;rintro(e|e|⟨j,h,J,A⟩);exact .inr ⟨i,x.2,by lia,E,c,e⟩;exact .inl e;exact .inr ⟨j,h,by lia,A⟩;rintro(e|⟨j,h,J,A,N,O⟩);exact .inr (.inl e);rcases Nat.lt_succ_iff_lt_or_eq.mp J with e|e;exact .inr (.inr ⟨j,h,e,A,N,O⟩);obtain rfl:j=i:=by lia
  rw[E]at A;cases A;exact .inl O;left;refine⟨⟨_,_,rfl⟩,C,l,g,by lia,L,λy=>?_⟩;rw[M];constructor;rintro(e|⟨j,h,J,A⟩);exact .inl e;exact .inr ⟨j,h,by lia,A⟩;rintro(e|⟨j,h,J,A,N,O⟩);exact .inl e;rcases Nat.lt_succ_iff_lt_or_eq.mp J with e|e;exact .inr ⟨j,h,e,A,N,O⟩;obtain rfl:j=i:=by lia
  rw[E]at A;cases A;exact absurd N c
 rintro f T h';cases f with
 |rt d=>exact h'.elim| nx H=>
  obtain⟨⟨u,v,rfl⟩,C,l,g,gl,L,M⟩:=h';rw[length_map,length_mapIdx]at gl;refine za4 ⟨⟨u,v,rfl⟩,?_,l,g,by lia,L,λy=>?_⟩
  rotate_left
  rw[M,zero_add,length_map,length_mapIdx];exact⟨C.frz,rfl,C.len,C.old⟩
end
theorem zl1{t:Int}{a:List Ly}{k:KP}(h:k∈wrL t a):∃x∈a,x.1.2.1=k.1/\x.1.2.2=k.2.1:=by
 unfold wrL at h;obtain⟨x,c,e⟩:=List.mem_filterMap.mp h;refine⟨x,c,?_⟩;split at e;cases b:x.2 with
 |none=>rw[b]at e;exact nS e
 |some w=>rw[b]at e;cases e;exact⟨rfl,rfl⟩
 exact nS e
section
variable{n a as ab ad:Nat}{m b t:Int}{fs:List (PySem.Str×D)}{lz:List Int}{Ls:List Ly}
theorem m_wl{S:R.St}{q:List (K3×D)}(B:Bk a as ab ad fs (sD m b (pD lz) (.tup (Ls.map lD))) S)(gd:S.get ad=Φ (.d3 q))(hl:q.length<=100000)(ll:Ls.length<=57)(hp:∀x∈Ls,x.1.2.1.length<=7) :
  W (appW (callF prog (n+2)) 32 [.ref a,.ref as,.int t] S) λd T=>∃l c,d=.ref l/\S.len<=l/\Mv [ad] S T/\T.get l=Φ (.lst ((wrL t Ls).map lpD))/\T.get ad=Φ (.d3 c)/\c.length<=q.length+399/\Up3 q c/\∀x,x∈ks3 c↔x∈ks3 q\/∃k∈wrL t Ls,SL lz k.1 k.2.2 k.1.length x:=by
 refine zcH (F:=zaK) rfl rfl ?_;have wl:(wrL t Ls).length<=57:=le_trans (List.length_filterMap_le _ _) ll;have dl:=get_lt gd;refine zaw (d:=.ref S.len) (S':=S.push (.lst ((wrL t Ls).map lpD))) (W.eq (wE_W _ ?_)) ?_;left;refine wOpt_of (zaH B.gs rfl) ?_;left;refine zam ?_;refine W.of (t_wr Ls Ψ) ?_;refine wNeed_of (by rw[length_map];lia) ?_
 left;refine wNeed_of (by rw[length_map];lia) ?_
 left;exact⟨rfl,rfl⟩;let S1:=S.push (.lst ((wrL t Ls).map lpD));have r:Bk a as ab ad fs (sD m b (pD lz) (.tup (Ls.map lD))) S1:=B.one (Mv.push _ _ _);have g1:S1.get ad=Φ (.d3 q):=zae gd;refine zc7 (xs:=(wrL t Ls).map lpD) (ls:=[S.len]) (S1:=S1) ?_ ?_;show evL _ (.val J3) _ S1=_;refine W.eq (wL_W _ ?_);left;refine wOpt_of (zag _ _) ?_;left;exact⟨rfl,rfl⟩;let S2:R.St:={S1 with lk:=[S.len]++S1.lk};have B2:Bk a as ab ad fs (sD m b (pD lz) (.tup (Ls.map lD))) S2:=⟨r.ga,r.fb,r.gs,r.gb,⟨r.hf.f,by
  show([S.len]++S1.lk).contains ad=Δ;have:=r.hf.k;simp only[List.contains_eq_mem,decide_eq_false_iff_not,mem_append,mem_singleton,not_or]at this⊢;exact⟨by lia,this⟩⟩,r.n1,r.n2,r.n3⟩
 refine W.mono (zal (λi G T=>(∃L M N O Q,G=[Φ (.ref a),Φ (.ref as),Φ (.int t),Φ (.ref S.len),L,M,N,O,Q])/\Mv [ad] S2 T/\∃c,T.get ad=Φ (.d3 c)/\c.length<=q.length+7*i/\Up3 q c/\∀x,x∈ks3 c↔x∈ks3 q\/∃k∈(wrL t Ls).take i,SL lz k.1 k.2.2 k.1.length x) (λ_ _=>False) _ 0 _ _ ⟨⟨Ψ,Ψ,Ψ,Ψ,Ψ,rfl⟩,Mv.refl _ _,q,g1,le_refl _,id,λx=>⟨.inl,λz=>z.elim id λj=>(by obtain⟨k,h,_⟩:=j;exact absurd h (by rw[List.take_zero];exact not_mem_nil))⟩⟩ ?_) ?_;rintro i z G T A ⟨⟨L,M,N,O,Q,rfl⟩,C,c,g,gl,Y,H⟩;have hi:=(Β.mp A).1;rw[length_map]at hi;rw[getElem?_map]at A;cases s:(wrL t Ls)[i]? with
 |none=>rw[s]at A;exact nS A
 |some k=>
  rw[s]at A;cases A;obtain⟨x,hx,e1,e2⟩:=zl1 (mem_of_getElem? s);refine⟨_,rfl,?_⟩;refine(zoh (p:=k.1) (o:=k.2.1) (w:=k.2.2) (B2.one C) g (by lia) (by rw[<-e1];exact hp x hx)).mono λf U hU=>?_;cases f with
  |rt d=>exact hU.elim| nx G=>
   obtain⟨⟨u,v,rfl⟩,mv2,kv2,q4,q5,q5u,q6⟩:=hU;refine⟨⟨_,_,_,_,_,rfl⟩,C.trans mv2,kv2,q4,by lia,λz=>q5u (Y z),λy=>?_⟩;rw[q6,H,show 0+i+1=i+1 by lia,List.take_succ,s,zero_add];constructor;rintro((e|⟨I,h1,J⟩)|e);exact .inl e;exact .inr ⟨I,mem_append_left _ h1,J⟩;exact .inr ⟨k,by simp,e⟩;rintro(e|⟨I,h1,J⟩);exact .inl (.inl e);rcases mem_append.mp h1 with e|e;exact .inl (.inr ⟨I,e,J⟩);have:I=k:=by simpa using e
   subst this;exact .inr J
 rintro f T h';cases f with|rt d=>exact h'.elim| nx G=>obtain⟨⟨L,M,N,O,Q,rfl⟩,C,c,g,gl,Y,H⟩:=h';rw[length_map]at gl;rw[zero_add,length_map,List.take_length]at H;have E:Mv [ad] S1 {T with lk:=S1.lk}:=⟨C.frz,rfl,C.len,C.old⟩;refine wS_W _ ?_;left;exact⟨S.len,c,rfl,le_refl _,(Mv.push _ _ _).trans E,E.old _ _ (by simp;lia) (zag _ _),g,by lia,Y,H⟩
end
noncomputable abbrev Kp:=Int×List Int
noncomputable def kD(k:Kp):D:=.tup [.int k.1,pD k.2]
noncomputable def refs(a m:Nat):List D:=(List.range m).map λi=>.ref (a+i)
theorem zgh{a m i:Nat}(h:i<m):atI (refs a m) (i:Int)=Φ (.ref (a+i)):=by refine zco ?_;unfold refs;rw[getElem?_map,List.getElem?_range h];rfl
structure Nv(ad N:Nat)(S T:R.St):Prop where
 frz:T.frz=S.frz
 lk:T.lk=S.lk
 len:S.len<=T.len
 old:∀x o,x<N->x≠ad->S.get x=Φ o->T.get x=Φ o
theorem Nv.refl(ad N:Nat)(S:R.St):Nv ad N S S:=⟨rfl,rfl,le_refl _,λ_ _ _ _ h=>h⟩
theorem Nv.trans{ad N:Nat}{S T U:R.St}(a:Nv ad N S T)(b:Nv ad N T U):Nv ad N S U:=⟨b.frz.trans a.frz,b.lk.trans a.lk,le_trans a.len b.len,λx o h n e=>b.old x o h n (a.old x o h n e)⟩
theorem Nv.of{ad N:Nat}{A:List Nat}{S T:R.St}(v:Mv A S T)(h:∀x∈A,x=ad\/N<=x):Nv ad N S T:=⟨v.frz,v.lk,v.len,λx o a b e=>v.old x o (λz=>by rcases h x z with q|q<;>lia) e⟩
theorem Fr.nv{ad N a:Nat}{S T:R.St}(h:Fr S a)(v:Nv ad N S T):Fr T a:=⟨by rw[v.frz];exact h.f,by rw[v.lk];exact h.k⟩
structure Pl(N a as ab ad kl K0 m:Nat)(fs:List (PySem.Str×D))(sd:MO)(ks:Nat->List Kp)(S:R.St):Prop where
 B:Bk a as ab ad fs sd S
 fk:fs.lookup ("keeping":PySem.Str)=Φ (.ref kl)
 fm:fs.lookup ("many":PySem.Str)=Φ (.int m)
 gk:S.get kl=Φ (.lst (refs K0 m))
 gi:∀i,i<m->S.get (K0+i)=Φ (.lst ((ks i).map kD))
 n4:kl≠ad
 n5:∀i,i<m->K0+i≠ad
 l1:a<N
 l2:as<N
 l3:ab<N
 l4:kl<N
 l5:K0+m<=N
 l6:ad<N
 hk:∀x∈S.lk,x<S.len
section
variable{N n a as ab ad kl K0 m:Nat}{b t:Int}{fs:List (PySem.Str×D)}{sd:MO}{ks:Nat->List Kp}
theorem Pl.nv{S T:R.St}(h:Pl N a as ab ad kl K0 m fs sd ks S)(v:Nv ad N S T):Pl N a as ab ad kl K0 m fs sd ks T:=⟨⟨v.old _ _ h.l1 h.B.n2 h.B.ga,h.B.fb,v.old _ _ h.l2 h.B.n3 h.B.gs,v.old _ _ h.l3 h.B.n1 h.B.gb,h.B.hf.nv v,h.B.n1,h.B.n2,h.B.n3⟩,h.fk,h.fm,v.old _ _ h.l4 h.n4 h.gk,λi c=>v.old _ _ (by have:=h.l5;lia) (h.n5 i c) (h.gi i c),h.n4,h.n5,h.l1,h.l2,h.l3,h.l4,h.l5,h.l6,λx d=>lt_of_lt_of_le (h.hk x (by rw[<-v.lk];exact d)) v.len⟩
theorem Pl.lock{S:R.St}(h:Pl N a as ab ad kl K0 m fs sd ks S){l:Nat}(c:l<S.len)(d:l≠ad):Pl N a as ab ad kl K0 m fs sd ks {S with lk:=[l]++S.lk}:=
 ⟨⟨h.B.ga,h.B.fb,h.B.gs,h.B.gb,⟨h.B.hf.f,by
   show([l]++S.lk).contains ad=Δ;have:=h.B.hf.k;simp only[List.contains_eq_mem,decide_eq_false_iff_not,mem_append,mem_singleton,not_or]at this⊢;exact⟨λe=>d e.symm,this⟩⟩,h.B.n1,h.B.n2,h.B.n3⟩,h.fk,h.fm,h.gk,h.gi,h.n4,h.n5,h.l1,h.l2,h.l3,h.l4,h.l5,h.l6,by
   intro x f;rcases mem_append.mp f with z|z;rw[mem_singleton]at z;subst z;exact c;exact h.hk x z⟩
theorem znY{S:R.St}{M:Int}{c:List Int}{Y:D}(f:0<=M)(i:M<=7)(gs:S.get as=Φ (sD M b (pD c) Y)):appW (callF prog (n+1)) 35 [.ref as] S=.ok (.ref S.len) (S.push (.lst ((offL M c).map .int))):=by
 refine zdV (F:=zbS) rfl rfl ?_;left;refine wOpt_of (zaH gs rfl) ?_;left;refine wNeed_of (by lia) ?_
 left;refine zam ?_;refine W.of (za9 (λd=>match d with|.int o=>!decide (o∈c)|_=>Δ) (λd=>d) _ Ψ (λz e=>?_) (λz e _=>?_)) ?_;obtain⟨o,_,rfl⟩:=mem_map.mp e;refine W.eq (wT_W _ ?_);left;refine wOpt_of (zaH gs rfl) ?_;left;refine wOpt_of (zdw S (o:Int) c) ?_;left;exact⟨rfl,rfl⟩;rfl;have g:((List.range M.toNat).map λ(k:Nat)=>D.int (k:Int))=(rg M).map .int:=by unfold rg;rw[map_map];rfl
 rw[g,zbb (λo=>!decide (o∈c)) .int _ _ (λo=>rfl) (λo=>rfl)];have h:(offL M c).length<=7:=by have:=zdv M.toNat c;rw[Int.toNat_of_nonneg f]at this;lia
 unfold offL at h⊢;refine wNeed_of (by rw[length_map];lia) ?_
 left;refine wNeed_of (by rw[length_map];lia) ?_
 left;exact⟨rfl,rfl⟩
noncomputable def WrOk(m:Nat)(k:KP):Prop:=1<=k.1.length/\k.1.length<=9/\0<=k.2.1/\k.2.1<m
noncomputable def zo0:CS:=.ifS (.cmp .Eq (.bi .len #[J6]) (.bin .Sub J2 U1)) (.expr (.meth "stamp" [(0,26)] (.fld J0 "book") #[J4,J6,J5]) (.asg 7 (.bin .Add J6 (.tup #[J4])) (.expr (.ext J3 (.comp 1 [7,5] [0] (.rng1 (.fld J0 "many")) (.cmp .NotIn J0 J1) (.tup #[J1,J0,J2]))) .nil))) .nil .nil
noncomputable def trW(m:Nat)(t h:Int)(k:Kp):List KP:=if(k.2.length:Int)=t-1 then(offL m (k.2++[h])).map λo=>(k.2++[h],o,k.1) else []
noncomputable def TS(t h:Int)(k:Kp)(x:K3):Prop:=(k.2.length:Int)=t-1/\x=(h,k.2,k.1)
theorem zog{S:R.St}{l:Nat}{h w M:Int}{p:List Int}{Q:Option D}{i:List (K3×D)}{j:List KP}(hM:M=m)(m7:m<=7)(P:Pl N a as ab ad kl K0 m fs sd ks S)(G:S.get ad=Φ (.d3 i))(hl:i.length<=1000000)(H:S.get l=Φ (.lst (j.map lpD)))(h3:N<=l)(Y:Fr S l)(wl:j.length<=1000)(I:∀k∈j,WrOk m k)(t8:t<=8) :
  W (exS (callF prog (n+1)) zo0 [Φ (.ref a),Φ (.ref as),Φ (.int t),Φ (.ref l),Φ (.int h),Φ (.int w),Φ (pD p),Q] S) λf T=>match f with|.nx δ=>(∃u,δ=[Φ (.ref a),Φ (.ref as),Φ (.int t),Φ (.ref l),Φ (.int h),Φ (.int w),Φ (pD p),u])/\Nv ad N S T/\(∃g,T.get ad=Φ (.d3 g)/\g.length<=i.length+1/\Up3 i g/\∀x,x∈ks3 g↔x∈ks3 i\/TS t h (w,p) x)/\∃r:List KP,T.get l=Φ (.lst (r.map lpD))/\r.length<=j.length+7/\(∀k∈r,WrOk m k)/\r=j++trW m t h (w,p)|.rt _=>False:=by
 refine wS_W _ ?_;left;refine zcg (λc=>?_) (λc=>?_);rw[length_map]at c;left;refine wOpt_of (zaH P.B.ga P.B.fb) ?_;left;refine wOpt_of (zaJ P.B.gb) ?_;left;refine wOpt_of rfl ?_;left;refine wNeed_of rfl ?_;left;refine zb6 ((zfe (n:=n) P.B G (by lia)).mono λd U v=>?_);obtain⟨q1,J,q3,s,q4,q5,A,B⟩:=v;have C:Nv ad N S U:=Nv.of J (by simp);have L:=P.nv C;have q:U.get l=Φ (.lst (j.map lpD)):=J.old _ _ (by have:=P.l6;simp;lia) H;left;right;left;refine wNeed_of (by rw[length_map];simp;lia) ?_
 left;refine wOpt_of q ?_;left;refine wOpt_of (zaH L.B.ga L.fm) ?_;left;refine wNeed_of (by lia) ?_
 left;rw[zgv];refine zam ?_;refine W.of (za9 (λd=>match d with|.int o=>!decide (o∈p++[h])|_=>Δ) (λd=>match d with|.int o=>lpD (p++[h],o,w)|d=>d) _ Ψ (λz E=>?_) (λz E _=>?_)) ?_;obtain⟨o,_,rfl⟩:=mem_map.mp E;refine W.eq (wT_W _ ?_);left;refine wOpt_of (zdw U (o:Int) (p++[h])) ?_;left;exact⟨rfl,rfl⟩;obtain⟨o,_,rfl⟩:=mem_map.mp E;refine W.eq (wE_W _ ?_);left;right;left;exact⟨rfl,rfl⟩;have hx:((List.range (m:Int).toNat).map λ(k:Nat)=>D.int (k:Int))=(rg m).map .int:=by unfold rg;rw[map_map];rfl
 rw[hx,zbb (λo=>!decide (o∈p++[h])) (λo=>lpD (p++[h],o,w)) _ _ (λo=>rfl) (λo=>rfl)];have ol:=zdv m (p++[h]);have e4:(((rg m).filter λo=>!decide (o∈p++[h])).map λo=>lpD (p++[h],o,w))=((offL m (p++[h])).map λo=>(p++[h],o,w)).map lpD:=by unfold offL;rw[map_map];rfl
 rw[e4];refine wNeed_of (by rw[length_map,length_map];lia) ?_
 left;refine wOpt_of q ?_;left;refine wNeed_of (by rw[length_append,length_map,length_map,length_map];lia) ?_
 left;obtain⟨V,e5,O,e7⟩:=zg6 (u:=.lst (j.map lpD++((offL m (p++[h])).map λo=>(p++[h],o,w)).map lpD)) (Y.nv C) q;refine wOpt_of e5 ?_;left;refine⟨⟨_,rfl⟩,C.trans (Nv.of O (by simp;lia)),⟨s,O.old _ _ (by have:=P.l6;simp;lia) q4,q5,A,λy=>?_⟩,j++(offL m (p++[h])).map λo=>(p++[h],o,w),by rw[e7,map_append],by rw[length_append,length_map];lia,?_,by unfold trW;rw[if_pos c]⟩;rw[B];constructor;rintro(e|e);exact .inr ⟨c,e⟩;exact .inl e;rintro(e|e);exact .inr e;exact .inl e.2;intro k hk;rcases mem_append.mp hk with z|z;exact I k z;obtain⟨o,ho,rfl⟩:=mem_map.mp z;have:=zdu ho;refine⟨by simp,?_,this.1.1,this.1.2⟩;simp;lia;left;rw[length_map]at c;exact⟨⟨_,rfl⟩,Nv.refl _ _ _,⟨i,G,by lia,id,λy=>⟨.inl,λz=>z.elim id λe=>absurd e.1 c⟩⟩,j,H,by lia,I,by unfold trW;rw[if_neg c,append_nil]⟩
end
noncomputable def zoZ:CS:=.forS [5,6] (.val (.ix (.fld J0 "keeping") J4)) zo0 .nil
theorem Fr.lock{S:R.St}{a l:Nat}(h:Fr S a)(b:l≠a):Fr {S with lk:=[l]++S.lk} a:=⟨h.f,by
 show([l]++S.lk).contains a=Δ;have:=h.k;simp only[List.contains_eq_mem,decide_eq_false_iff_not,mem_append,mem_singleton,not_or]at this⊢;exact⟨λe=>b e.symm,this⟩⟩
theorem Nv.unlock{ad N:Nat}{S T:R.St}{l:List Nat}(v:Nv ad N {S with lk:=l} T):Nv ad N S {T with lk:=S.lk}:=⟨v.frz,rfl,v.len,v.old⟩
section
variable{N n a as ab ad kl K0 m:Nat}{b t:Int}{fs:List (PySem.Str×D)}{sd:MO}{ks:Nat->List Kp}
theorem zlA{S:R.St}{p i:Nat}{r s w:Option D}{l:List (K3×D)}{A:List KP}(G:i<m)(m7:m<=7)(P:Pl N a as ab ad kl K0 m fs sd ks S)(k2:∀i,i<m->(ks i).length<=2)(gd:S.get ad=Φ (.d3 l))(hl:l.length<=999000)(g3:S.get p=Φ (.lst (A.map lpD)))(h3:N<=p)(f3:Fr S p)(wl:A.length<=900)(wo:∀k∈A,WrOk m k)(t8:t<=8) :
  W (exS (callF prog (n+1)) zoZ [Φ (.ref a),Φ (.ref as),Φ (.int t),Φ (.ref p),Φ (.int (i:Nat)),r,s,w] S) λf T=>match f with|.nx C=>(∃r s w,C=[Φ (.ref a),Φ (.ref as),Φ (.int t),Φ (.ref p),Φ (.int (i:Nat)),r,s,w])/\Nv ad N S T/\(∃c,T.get ad=Φ (.d3 c)/\c.length<=l.length+2/\Up3 l c/\∀x,x∈ks3 c↔x∈ks3 l\/∃k∈ks i,TS t i k x)/\∃o:List KP,T.get p=Φ (.lst (o.map lpD))/\o.length<=A.length+14/\(∀k∈o,WrOk m k)/\o=A++(ks i).flatMap (trW m t i)|.rt _=>False:=by
 have l5:=P.l5;have k2i:=k2 i G;refine zc7 (xs:=(ks i).map kD) (ls:=[K0+i]) (S1:=S) ?_ ?_;refine W.eq (wL_W _ ?_);left;refine wOpt_of (zaH P.B.ga P.fk) ?_;left;refine wOpt_of P.gk ?_;left;refine wOpt_of (zgh G) ?_;left;refine wOpt_of (P.gi i G) ?_;left;exact⟨rfl,rfl⟩;have PL:=P.lock (get_lt (P.gi i G)) (P.n5 i G);have fL:Fr {S with lk:=[K0+i]++S.lk} p:=f3.lock (by lia);refine W.mono (zal (λj C T=>(∃r s w,C=[Φ (.ref a),Φ (.ref as),Φ (.int t),Φ (.ref p),Φ (.int (i:Nat)),r,s,w])/\Nv ad N {S with lk:=[K0+i]++S.lk} T/\(∃c,T.get ad=Φ (.d3 c)/\c.length<=l.length+j/\Up3 l c/\∀x,x∈ks3 c↔x∈ks3 l\/∃k∈(ks i).take j,TS t i k x)/\∃o:List KP,T.get p=Φ (.lst (o.map lpD))/\o.length<=A.length+7*j/\(∀k∈o,WrOk m k)/\o=A++((ks i).take j).flatMap (trW m t i)) (λ_ _=>False) _ 0 _ _ ⟨⟨r,s,w,rfl⟩,Nv.refl _ _ _,⟨l,gd,le_refl _,id,λx=>⟨.inl,λz=>z.elim id λq=>(by obtain⟨k,h,_⟩:=q;exact absurd h (by exact not_mem_nil))⟩⟩,A,g3,le_refl _,wo,by simp⟩ ?_) ?_;rintro j z C T E ⟨⟨r,s,w,rfl⟩,v,⟨c,g,gl,M,H⟩,o,O,vl,Q,I⟩;have hj:=(Β.mp E).1;rw[length_map]at hj;rw[getElem?_map]at E;cases B:(ks i)[j]? with
 |none=>rw[B]at E;exact nS E
 |some k=>
  rw[B]at E;cases E;refine⟨_,rfl,(zog rfl m7 (PL.nv v) g (by lia) O h3 (fL.nv v) (by lia) Q t8).mono λf U hU=>?_⟩;cases f with
  |rt d=>exact hU.elim| nx C=>
   obtain⟨⟨u,rfl⟩,v2,⟨Y,q4,q5,q5u,q5b⟩,V2,q6,q7,q8,q9⟩:=hU;have tk:(ks i).take (0+j+1)=(ks i).take j++[k]:=by rw[show 0+j+1=j+1 by lia,List.take_succ,B];rfl
   refine⟨⟨_,_,_,rfl⟩,v.trans v2,⟨Y,q4,by lia,λz=>q5u (M z),λy=>?_⟩,V2,q6,by lia,q8,?_⟩;rw[q5b,H,tk,zero_add];constructor;rintro((e|⟨J,h1,L⟩)|e);exact .inl e;exact .inr ⟨J,mem_append_left _ h1,L⟩;exact .inr ⟨k,by simp,e⟩;rintro(e|⟨J,h1,L⟩);exact .inl (.inl e);rcases mem_append.mp h1 with e|e;exact .inl (.inr ⟨J,e,L⟩);have:J=k:=by simpa using e
   subst this;exact .inr L;rw[q9,I,tk,zero_add,append_assoc];congr 2;simp
 rintro f T h';cases f with|rt d=>exact h'.elim| nx C=>obtain⟨⟨r,s,w,rfl⟩,v,⟨c,g,gl,M,H⟩,o,O,vl,Q,I⟩:=h';rw[length_map]at gl vl;rw[zero_add,length_map,List.take_length]at H I;exact za4 ⟨⟨_,_,_,rfl⟩,v.unlock,⟨c,g,by lia,M,H⟩,o,O,by lia,Q,I⟩
noncomputable def ST(m:Nat)(c:List Int)(ks:Nat->List Kp)(t:Int)(x:K3):Prop:=∃i:Nat,i<m/\(i:Int)∉c/\∃k∈ks i,TS t i k x
theorem m_wt{S:R.St}{p:List Int}{Y:D}{o:List (K3×D)}(m7:m<=7)(P:Pl N a as ab ad kl K0 m fs (sD m b (pD p) Y) ks S)(hN:N<=S.len)(hF:S.frz.length<=N)(k2:∀i,i<m->(ks i).length<=2)(gd:S.get ad=Φ (.d3 o))(hl:o.length<=100000)(t8:t<=8) :
  W (appW (callF prog (n+2)) 33 [.ref a,.ref as,.int t] S) λd T=>∃(l:Nat) (c:List (K3×D)) (C:List KP),d=.ref l/\S.len<=l/\Nv ad N S T/\T.get l=Φ (.lst (C.map lpD))/\T.get ad=Φ (.d3 c)/\c.length<=o.length+14/\C.length<=98/\(∀k∈C,WrOk m k)/\Up3 o c/\(∀x,x∈ks3 c↔x∈ks3 o\/ST m p ks t x)/\C=(offL m p).flatMap λh=>(ks h.toNat).flatMap (trW m t h):=by
 refine zcH rfl rfl ?_;let S1:=S.push (.lst []);refine zaw rfl ?_;have v1:Nv ad N S S1:=Nv.of (Mv.push [] S _) (by simp);have L:=P.nv v1;let q:=S1.push (.lst ((offL m p).map .int));have E:Nv ad N S1 q:=Nv.of (Mv.push [] S1 _) (by simp);have P2:=L.nv E;have dl:=P.l6;have ln1:S1.len=S.len+1:=plen _ _;have ln2:q.len=S1.len+1:=plen _ _;refine zc7 (xs:=(offL m p).map .int) (ls:=[S1.len]) (S1:=q) ?_ ?_;refine W.eq (wL_W _ ?_);left;refine wOpt_of (zaJ L.B.gs) ?_;left;refine wOpt_of rfl ?_;left;refine wNeed_of rfl ?_;left;refine wOut_of (znY (by lia) (by lia) L.B.gs) ?_;left;refine wOpt_of (zag _ _) ?_;left;exact⟨rfl,rfl⟩;have PL:Pl N a as ab ad kl K0 m fs (sD m b (pD p) Y) ks {q with lk:=[S1.len]++q.lk}:=P2.lock (by lia) (by lia);have f3:Fr q S.len:=⟨by show S.frz.length<=_;lia,by
  exact zlC P.hk (le_refl _)⟩
 have fL:Fr {q with lk:=[S1.len]++q.lk} S.len:=f3.lock (by lia);have g3:q.get S.len=Φ (.lst (([]:List KP).map lpD)):=zae (zag _ _);refine W.mono (zal (λj G T=>(∃M O Q u7,G=[Φ (.ref a),Φ (.ref as),Φ (.int t),Φ (.ref S.len),M,O,Q,u7])/\Nv ad N {q with lk:=[S1.len]++q.lk} T/\(∃c,T.get ad=Φ (.d3 c)/\c.length<=o.length+2*j/\Up3 o c/\∀x,x∈ks3 c↔x∈ks3 o\/∃h∈(offL m p).take j,∃k∈ks h.toNat,TS t h k x)/\∃w:List KP,T.get S.len=Φ (.lst (w.map lpD))/\w.length<=14*j/\(∀k∈w,WrOk m k)/\w=((offL m p).take j).flatMap λh=>(ks h.toNat).flatMap (trW m t h)) (λ_ _=>False) _ 0 _ _ ⟨⟨Ψ,Ψ,Ψ,Ψ,rfl⟩,Nv.refl _ _ _,⟨o,zae (zae gd),le_refl _,id,λx=>⟨.inl,λz=>z.elim id λu=>(by obtain⟨k,h,_⟩:=u;exact absurd h (by exact not_mem_nil))⟩⟩,[],g3,le_refl _,by simp,by simp⟩ ?_) ?_;rintro j z G T A ⟨⟨M,O,Q,u7,rfl⟩,v,⟨c,g,gl,gu,H⟩,w,gv,vl,vo,I⟩;have hj:=(Β.mp A).1;rw[length_map]at hj;have ol:=zdv m p;rw[getElem?_map]at A;cases r:(offL m p)[j]? with
 |none=>rw[r]at A;exact nS A
 |some k=>
  rw[r]at A;cases A;have ok:=(zdu (mem_of_getElem? r)).1;obtain⟨i,rfl⟩:∃i:Nat,k=i:=⟨k.toNat,by lia⟩;refine⟨_,rfl,(zlA (by lia) m7 (PL.nv v) k2 g (by lia) gv hN (fL.nv v) (by lia) vo t8).mono λf U hU=>?_⟩;cases f with
  |rt d=>exact hU.elim| nx G=>
   obtain⟨⟨_,_,_,rfl⟩,E,⟨kv2,q4,q5,q5u,q5b⟩,V2,q6,q7,q8,q9⟩:=hU;have tk:(offL m p).take (0+j+1)=(offL m p).take j++[(i:Int)]:=by rw[show 0+j+1=j+1 by lia,List.take_succ,r];rfl
   refine⟨⟨_,_,_,_,rfl⟩,v.trans E,⟨kv2,q4,by lia,λz=>q5u (gu z),λy=>?_⟩,V2,q6,by lia,q8,?_⟩;rw[q5b,H,tk,zero_add];constructor;rintro((e|⟨J,B,s⟩)|e);exact .inl e;exact .inr ⟨J,mem_append_left _ B,s⟩;exact .inr ⟨i,by simp,by exact e⟩;rintro(e|⟨J,B,s⟩);exact .inl (.inl e);rcases mem_append.mp B with e|e;exact .inl (.inr ⟨J,e,s⟩);have:J=i:=by simpa using e
   subst this;exact .inr s;rw[q9,I,tk,zero_add];congr 1;simp
 rintro f T h';cases f with|rt d=>exact h'.elim| nx G=>obtain⟨⟨M,O,Q,u7,rfl⟩,v,⟨c,g,gl,gu,H⟩,w,gv,vl,vo,I⟩:=h';have ol:=zdv m p;rw[length_map]at gl vl;rw[zero_add,length_map,List.take_length]at H I;refine wS_W _ ?_;left;refine⟨S.len,c,w,rfl,le_refl _,(v1.trans E).trans v.unlock,gv,g,by lia,by lia,vo,gu,λx=>?_,I⟩;rw[H];refine or_congr_right ⟨λ⟨h,B,k,s,h3⟩=>?_,λ⟨i,B,s,h3⟩=>?_⟩;obtain⟨⟨a1,a2⟩,a3⟩:=zdu B;obtain⟨i,rfl⟩:∃i:Nat,h=i:=⟨h.toNat,by lia⟩;exact⟨i,by lia,a3,k,s,h3⟩;refine⟨i,?_,by exact h3⟩;unfold offL rg;rw[mem_filter];exact⟨mem_map.mpr ⟨i,mem_range.mpr (by lia),rfl⟩,by simpa using s⟩
end
structure Lt where
 t:Int
 p:List Int
 to:Int
 w:Int
 g:Bool
noncomputable def seD(x:Lt):D:=.tup [.int x.t,pD x.p,.int x.to,.int x.w,.bl x.g]
noncomputable def hits(s:Int)(x:Lt):Bool:=x.g&&(decide ((x.p.length:Int)=x.t)&&decide (x.p.head?=Φ s))
noncomputable def kpZ(a:List Kp)(w:Int)(p:List Int):List Kp:=if a.length<2/\w∉a.map (·.1) then a++[(w,p)] else a
noncomputable def dueL(s b:Int)(L:List Lt)(h:Nat):List Kp:=L.foldl (λa x=>if x.to=(h:Int)/\hits s x=Γ then kpZ a x.w x.p else a) (if(h:Int)=s then [(b,[])] else [])
theorem zdN(s a:Int)(L:List Lt)(x:Lt)(h:Nat):dueL s a (L++[x]) h=if x.to=(h:Int)/\hits s x=Γ then kpZ (dueL s a L h) x.w x.p else dueL s a L h:=by unfold dueL;rw[List.foldl_append];rfl
theorem zoa{a:List Kp}{w:Int}{p:List Int}(h:a.length<=2):(kpZ a w p).length<=2:=by unfold kpZ;split;rename_i q;rw[length_append];have:=q.1;simp;lia;exact h
theorem ze2(s c:Int)(h:Nat)(L:List Lt):(dueL s c L h).length<=2:=by
 suffices ∀(L:List Lt)(a:List Kp),a.length<=2->(L.foldl (λa x=>if x.to=(h:Int)/\hits s x=Γ then kpZ a x.w x.p else a) a).length<=2 by refine this L _ ?_;split<;>simp
 intro L;induction L with|nil=>intro a h;exact h| cons x L d=>intro a b;rw[List.foldl_cons];refine d _ ?_;split;exact zoa b;exact b
noncomputable def sgF(m:Nat)(s:Int)(a:Nat):List (PySem.Str×D):=[("many",.int m),("sender",.int s),("keeping",.ref (a+m)),("book",.ref (a+m+1)),("sent",.ref (a+m+3))]
structure Sy(as a K0 m:Nat)(sd:MO)(s w0:Int)(kvs:List (K3×D))(L:List Lt)(S:R.St):Prop where
 o1:as<a
 o2:a<K0
 ga:S.get a=Φ (.ins 1 (sgF m s K0))
 gs:S.get as=Φ sd
 gK:S.get (K0+m)=Φ (.lst (refs K0 m))
 gB:S.get (K0+m+1)=Φ (bkD (K0+m+2))
 gD:S.get (K0+m+2)=Φ (.d3 kvs)
 gL:S.get (K0+m+3)=Φ (.lst (L.map seD))
 gi:∀i,i<m->S.get (K0+i)=Φ (.lst ((dueL s w0 L i).map kD))
 fr:∀x,K0<=x->Fr S x\/K0+m+3<x
 hk:∀x∈S.lk,x<S.len
 fz:S.frz.length<=K0
section
variable{n as a K0 m:Nat}{sd:MO}{s w0 t:Int}{kvs:List (K3×D)}{L:List Lt}{S:R.St}
theorem Sy.f(h:Sy as a K0 m sd s w0 kvs L S){x:Nat}(b:K0<=x)(c:x<=K0+m+3):Fr S x:=by rcases h.fr x b with q|q;exact q;lia
theorem Sy.pl(h:Sy as a K0 m sd s w0 kvs L S):Pl (K0+m+4) a as (K0+m+1) (K0+m+2) (K0+m) K0 m (sgF m s K0) sd (dueL s w0 L) S:=by have:=h.o1;have:=h.o2;exact⟨⟨h.ga,rfl,h.gs,h.gB,h.f (by lia) (by lia),by lia,by lia,by lia⟩,rfl,rfl,h.gK,h.gi,by lia,λi b=>by lia,by lia,by lia,by lia,by lia,by lia,by lia,h.hk⟩
theorem Sy.nv{T:R.St}{b:List (K3×D)}(h:Sy as a K0 m sd s w0 kvs L S)(v:Nv (K0+m+2) (K0+m+4) S T)(g:T.get (K0+m+2)=Φ (.d3 b)):Sy as a K0 m sd s w0 b L T:=by have d:=h.o1;have e:=h.o2;exact⟨d,e,v.old _ _ (by lia) (by lia) h.ga,v.old _ _ (by lia) (by lia) h.gs,v.old _ _ (by lia) (by lia) h.gK,v.old _ _ (by lia) (by lia) h.gB,g,v.old _ _ (by lia) (by lia) h.gL,λi f=>v.old _ _ (by lia) (by lia) (h.gi i f),λx c=>(h.fr x c).imp (λq=>q.nv v) id,λx c=>lt_of_lt_of_le (h.hk x (by rw[<-v.lk];exact c)) v.len,by rw[v.frz];exact h.fz⟩
theorem Sy.up{A:List Nat}{T:R.St}{c:List Lt}(h:Sy as a K0 m sd s w0 kvs L S)(v:Mv A S T)(d:∀x∈A,x=K0+m+3\/(K0<=x/\x<K0+m))(f:T.get (K0+m+3)=Φ (.lst (c.map seD)))(g:∀i,i<m->T.get (K0+i)=Φ (.lst ((dueL s w0 c i).map kD))):Sy as a K0 m sd s w0 kvs c T:=by have j:=h.o1;have l:=h.o2;have k:∀x o,(x<K0\/x=K0+m\/x=K0+m+1\/x=K0+m+2)->S.get x=Φ o->T.get x=Φ o:=λx o b e=>v.old _ _ (λz=>by rcases d x z with q|q<;>lia) e;exact⟨j,l,k _ _ (by lia) h.ga,k _ _ (by lia) h.gs,k _ _ (by lia) h.gK,k _ _ (by lia) h.gB,k _ _ (by lia) h.gD,f,g,λx b=>(h.fr x b).imp (λq=>q.mv v) id,λx b=>lt_of_lt_of_le (h.hk x (by rw[<-v.lk];exact b)) v.len,by rw[v.frz];exact h.fz⟩
theorem Sy.push(h:Sy as a K0 m sd s w0 kvs L S)(o:MO):Sy as a K0 m sd s w0 kvs L (S.push o):=h.up (Mv.push [] S o) (by simp) (zae h.gL) λi b=>zae (h.gi i b)
theorem Sy.lk{l:List Nat}(h:Sy as a K0 m sd s w0 kvs L S)(d:∀x∈l,x<S.len)(e:∀x,K0<=x->x<=K0+m+3->l.contains x=Δ):Sy as a K0 m sd s w0 kvs L {S with lk:=l}:=⟨h.o1,h.o2,h.ga,h.gs,h.gK,h.gB,h.gD,h.gL,h.gi,λx b=>by by_cases c:x<=K0+m+3;exact .inl ⟨le_trans h.fz b,e x b c⟩;exact .inr (by lia),d,h.fz⟩
theorem zkz{cf:CF}{T:R.St}:∀(ks:List Kp)(u:Option D),zax [0] (evT cf (.tst (.con (.bl Γ)))) (evE cf (.ix J0 U0)) (ks.map kD) [u] T=.ok ((ks.map (·.1)).map .int) T
 | [],_=>rfl| k::ks,u=>by have ih:=zkz (cf:=cf) (T:=T) ks (Φ (kD k));unfold zax;show Out.bind (.ok Γ T) _=_;rw[zaC,if_pos rfl];show Out.bind (.ok (D.int k.1) T) _=_;show Out.bind (zax [0] _ _ (ks.map kD) [Φ (kD k)] T) _=_;rw[ih];rfl
theorem zqr{i:Nat}{w:Int}{p:List Int}{ks:List Kp}(h:S.get a=Φ (.ins 1 (sgF m s K0)))(j:S.get (K0+m)=Φ (.lst (refs K0 m)))(k:Fr S (K0+i))(l:i<m)(g:S.get (K0+i)=Φ (.lst (ks.map kD)))(q:ks.length<=2) :
  W (appW (callF prog (n+1)) 28 [.ref a,.int (i:Nat),.int w,pD p] S) λd T=>d=.non/\Mv [K0+i] S T/\T.get (K0+i)=Φ (.lst ((kpZ ks w p).map kD)):=by
 refine zcH rfl rfl (wS_W _ ?_);have x:(ks.map (·.1)).length<=2:=by rw[length_map];exact q
 left;refine wOpt_of (zaH h rfl) ?_;left;refine wOpt_of j ?_;left;refine wOpt_of (zgh l) ?_;left;refine wOpt_of g ?_;left;refine zcg (λc=>?_) (λc=>?_);rw[length_map]at c;left;refine wOpt_of g ?_;left;refine zam ?_;refine W.of (zkz ks Ψ) ?_;refine wNeed_of (by rw[length_map];lia) ?_
 left;refine wNeed_of (by rw[length_map];lia) ?_
 left;refine wOpt_of (zfv (zag _ _) w) ?_;left;refine zkL (λd=>?_) (λd=>?_);have e:w∉ks.map (·.1):=by simpa using d
 have b:kpZ ks w p=ks++[(w,p)]:=by unfold kpZ;rw[if_pos ⟨by lia,e⟩]
 have f:=zae (o:=.lst ((ks.map (·.1)).map .int)) g;left;refine wOpt_of f ?_;left;right;left;refine wOpt_of f ?_;left;refine wNeed_of (by simp;lia) ?_
 left;obtain⟨V,r,u,v⟩:=zg6 (k.mv (Mv.push [] S _)) f;refine wOpt_of r ?_;left;refine⟨rfl,(Mv.push _ _ _).trans u,?_⟩;rw[v,b,map_append];rfl;have e:w∈ks.map (·.1):=by simpa using d
 have b:kpZ ks w p=ks:=by unfold kpZ;rw[if_neg λz=>z.2 e]
 left;refine⟨rfl,Mv.push _ _ _,?_⟩;rw[b];exact zae g;rw[length_map]at c;have b:kpZ ks w p=ks:=by unfold kpZ;rw[if_neg λz=>c (by lia)]
 left;refine⟨rfl,Mv.refl _ _,?_⟩;rw[b];exact g
end
noncomputable def zrD:CS:=.asg 7 (.meth "genuine" [(0,24)] (.fld J0 "book") #[J4,J6]) (.expr (.mt .append (.fld J0 "sent") #[.tup #[J2,J4,J5,J6,J7]]) (.ifS (.and (.tst J7) (.and (.cmp .Eq (.bi .len #[J4]) J2) (.cmp .Eq (.ix J4 U0) (.fld J0 "sender")))) (.expr (.meth "keep" [(1,28)] J0 #[J5,J6,J4]) .nil) .nil .nil))
structure LtOk(m:Nat)(x:Lt):Prop where
 p1:1<=x.p.length
 p9:x.p.length<=9
 o0:0<=x.to
 om:x.to<m
structure Kt(S T:R.St):Prop where
 frz:T.frz=S.frz
 lk:T.lk=S.lk
 len:S.len<=T.len
structure Kl(N:Nat)(S T:R.St):Prop where
 frz:T.frz=S.frz
 lk:T.lk=S.lk
 len:S.len<=T.len
 old:∀x o,x<N->S.get x=Φ o->T.get x=Φ o
theorem Kl.refl(N:Nat)(S:R.St):Kl N S S:=⟨rfl,rfl,le_refl _,λ_ _ _ e=>e⟩
theorem Kl.trans{N:Nat}{S T U:R.St}(a:Kl N S T)(b:Kl N T U):Kl N S U:=⟨b.frz.trans a.frz,b.lk.trans a.lk,le_trans a.len b.len,λx o h e=>b.old x o h (a.old x o h e)⟩
theorem Mv.kl{N:Nat}{A:List Nat}{S T:R.St}(v:Mv A S T)(h:∀x∈A,N<=x):Kl N S T:=⟨v.frz,v.lk,v.len,λx o a e=>v.old x o (λz=>by have:=h x z;lia) e⟩
theorem Nv.kl{a N M:Nat}{S T:R.St}(v:Nv a N S T)(b:M<=a)(c:M<=N):Kl M S T:=⟨v.frz,v.lk,v.len,λx o d e=>v.old x o (by lia) (by lia) e⟩
section
variable{n as a K0 m:Nat}{sd:MO}{s w0 t:Int}{kvs:List (K3×D)}{L:List Lt}{S:R.St}
theorem zlI{i:Nat}{p:List Int}{w:Int}{C Q:Option D}(h:Sy as a K0 m sd s w0 kvs L S)(H:i<m)(I:1<=p.length)(Y:p.length<=9)(ll:L.length<=1000000) :
  W (exS (callF prog (n+2)) zrD [Φ (.ref a),Φ (.ref as),Φ (.int t),C,Φ (pD p),Φ (.int (i:Nat)),Φ (.int w),Q] S) λf T=>match f with|.nx δ=>(∃u,δ=[Φ (.ref a),Φ (.ref as),Φ (.int t),C,Φ (pD p),Φ (.int (i:Nat)),Φ (.int w),u])/\Kl a S T/\∃x:Lt,LtOk m x/\Sy as a K0 m sd s w0 kvs (L++[x]) T/\x=⟨t,p,i,w,gdB kvs p w⟩|.rt _=>False:=by
 obtain⟨l,o,rfl⟩:∃l o,p=l::o:=by cases p with|nil=>simp at I|cons a b=>exact⟨a,b,rfl⟩
 have J:=zrV (n:=n) (w:=w) (p:=l::o) h.gB h.gD (by lia);generalize gdB kvs (l::o) w=g at J⊢;let x:Lt:=⟨t,l::o,i,w,g⟩;have M:LtOk m x:=⟨I,Y,by show(0:Int)<=i;lia,by show(i:Int)<m;lia⟩;have o1:=h.o1;have o2:=h.o2;refine wS_W _ ?_;left;refine wOpt_of (zaH h.ga rfl) ?_;left;refine wOpt_of (zaJ h.gB) ?_;left;refine wOpt_of rfl ?_;left;refine wNeed_of rfl ?_;left;refine wOut_of J ?_;left;refine wOpt_of (zaH h.ga rfl) ?_;left;refine wOpt_of h.gL ?_;left;right;left;refine wOpt_of h.gL ?_;left;refine wNeed_of (by rw[length_append,length_map];simp;lia) ?_
 left;obtain⟨V,e5,r,e7⟩:=zg6 (u:=.lst (L.map seD++[.tup [.int t,pD (l::o),.int i,.int w,.bl g]])) (h.f (x:=K0+m+3) (by lia) (by lia)) h.gL;refine wOpt_of e5 ?_;left;have A:V.get (K0+m+3)=Φ (.lst ((L++[x]).map seD)):=by rw[e7,map_append];rfl
 have v:∀j,j<m->V.get (K0+j)=Φ (.lst ((dueL s w0 L j).map kD)):=λj B=>r.old _ _ (by simp;lia) (h.gi j B);have y:V.get a=Φ (.ins 1 (sgF m s K0)):=r.old _ _ (by simp;lia) h.ga;have E:hits s x=Δ->(∃u,[Φ (.ref a),Φ (.ref as),Φ (.int t),C,Φ (pD (l::o)),Φ (.int (i:Nat)),Φ (.int w),Φ (.bl g)]=[Φ (.ref a),Φ (.ref as),Φ (.int t),C,Φ (pD (l::o)),Φ (.int (i:Nat)),Φ (.int w),u])/\Kl a S V/\∃x:Lt,LtOk m x/\Sy as a K0 m sd s w0 kvs (L++[x]) V/\x=⟨t,l::o,i,w,g⟩:=by intro q;refine⟨⟨_,rfl⟩,r.kl (by simp;lia),x,M,h.up r (by simp) A λj B=>?_,rfl⟩;rw[zdN,if_neg (by rw[q];simp)];exact v j B
 refine zkL (λc=>?_) (λc=>?_);left;refine zcg (λd=>?_) (λd=>?_);left;refine wOpt_of ((atI_0:atI (D.int l::o.map .int) 0=Φ (.int l))) ?_;left;refine wOpt_of (zaH y rfl) ?_;left;refine zcg (λe=>?_) (λe=>?_);have q:hits s x=Γ:=by unfold hits;rw[show x.g=Γ from c,decide_eq_true (show(x.p.length:Int)=x.t by rw[length_map]at d;exact d),decide_eq_true (show x.p.head?=Φ s by show Φ l=Φ s;rw[show l=s from e])];rfl
 left;refine wOpt_of (zaJ y) ?_;left;refine wOpt_of rfl ?_;left;refine wNeed_of rfl ?_;left;refine zb6 ((zqr (n:=n+1) (s:=s) y (r.old _ _ (by simp) h.gK) (Fr.mv (h.f (by lia) (by lia)) r) H (v i H) (ze2 s w0 i L)).mono λd U k=>?_);obtain⟨q1,G,q3⟩:=k;have N:Mv [K0+m+3,K0+i] S U:=(r.up (by simp)).trans (G.up (by simp));left;refine⟨⟨_,rfl⟩,N.kl (by simp;lia),x,M,h.up N (by simp;lia) (G.old _ _ (by simp;lia) A) λj B=>?_,rfl⟩;rw[zdN];by_cases O:j=i;subst O;rw[if_pos ⟨rfl,q⟩];exact q3;rw[if_neg (λz=>O (by have:(i:Int)=(j:Int):=z.1;lia))];exact G.old _ _ (by simp;lia) (v j B);have q:hits s x=Δ:=by unfold hits;rw[decide_eq_false (show ¬x.p.head?=Φ s from λz=>e (by cases z;rfl))];simp
 left;exact E q;have q:hits s x=Δ:=by unfold hits;rw[decide_eq_false (show ¬(x.p.length:Int)=x.t from λz=>d (by rw[length_map];exact z))];simp
 left;exact E q;have q:hits s x=Δ:=by unfold hits;rw[show x.g=Δ from c];rfl
 left;exact E q
end
theorem zqv(k:KP):lpOf (lpD k)=Φ k:=by unfold lpOf lpD;dsimp only;rw[zba];rfl
theorem zjC:∀ks:List KP,(ks.map lpD).mapM lpOf=Φ ks
 | []=>rfl|k::ks=>by rw[ϋ,mapM_cons,zqv,zjC ks];rfl
theorem zqu{S:R.St}{l:Nat}{ks:List KP}(h:S.get l=Φ (.lst (ks.map lpD))):zjF S (.ref l)=Φ ks:=by unfold zjF;dsimp only;rw[h];exact zjC ks
theorem ziQ(ks:List KP):(zcs ks).length<=ks.length:=List.Nodup.length_le_of_subset (zjB (zbE ks)) λz a=>(zcr z ks).mp a
section
variable{n as a K0 m:Nat}{b s w0 t:Int}{lz:List Int}{Ls:List Ly}{kvs:List (K3×D)}{L:List Lt}{S:R.St}
theorem Sy.len(h:Sy as a K0 m (sD m b (pD lz) (.tup (Ls.map lD))) s w0 kvs L S):K0+m+3<S.len:=get_lt h.gL
noncomputable def wrT(m:Nat)(lz:List Int)(ks:Nat->List Kp)(t:Int):List KP:=(offL m lz).flatMap λh=>(ks h.toNat).flatMap (trW m t h)
noncomputable def mkL(t:Int)(kvs:List (K3×D))(k:KP):Lt:=⟨t,k.1,k.2.1,k.2.2,gdB kvs k.1 k.2.2⟩
structure Rnd(m:Nat)(lz:List Int)(Ls:List Ly)(s w0 t:Int)(kvs:List (K3×D))(L:List Lt)(kvs':List (K3×D))(L':List Lt):Prop where
 k:∀x,x∈ks3 kvs'↔x∈ks3 kvs\/ST m lz (dueL s w0 L) t x\/∃k∈wrL t Ls,SL lz k.1 k.2.2 k.1.length x
 n:Up3 kvs kvs'
 l:L'=L++(zcs (wrT m lz (dueL s w0 L) t++wrL t Ls)).map (mkL t kvs')
theorem zn1(m7:m<=7)(h:Sy as a K0 m (sD m b (pD lz) (.tup (Ls.map lD))) s w0 kvs L S)(lo:∀x∈Ls,LyOk m x)(ln:Ls.length<=57)(t8:t<=8)(hl:kvs.length<=50000)(ll:L.length<=50000)(Lo:∀x∈L,LtOk m x) :
  W (appW (callF prog (n+3)) 31 [.ref a,.ref as,.int t] S) λd T=>d=.non/\Kl a S T/\∃r c,Sy as a K0 m (sD m b (pD lz) (.tup (Ls.map lD))) s w0 r c T/\r.length<=kvs.length+413/\c.length<=L.length+155/\(∀x∈c,LtOk m x)/\Rnd m lz Ls s w0 t kvs L r c:=by
 refine zcH (F:=zbc) rfl rfl (wS_W _ ?_);have sl:=h.len;left;refine wOpt_of (zaJ h.ga) ?_;left;refine wOpt_of rfl ?_;left;refine wNeed_of rfl ?_;left;refine zb6 ((m_wt (n:=n) m7 h.pl (by lia) (by have:=h.fz;lia) (λi hi=>ze2 s w0 i L) h.gD (by lia) t8).mono λd U q=>?_);obtain⟨l,kv1,H,q1,q2,q3,q4,q5,q6,q7,q8,q8u,q9,q10⟩:=q;subst q1;have N:=h.nv q3 q5;left;refine wOpt_of (zaJ N.ga) ?_;left;refine wOpt_of rfl ?_;left;refine wNeed_of rfl ?_;left;have wlL:(wrL t Ls).length<=57:=le_trans (List.length_filterMap_le _ _) ln;refine zb6 ((m_wl (n:=n) N.pl.B N.gD (by lia) ln (λx A=>(lo x A).p7)).mono λd V v=>?_);obtain⟨l',g,r1,r2,r3,r4,r5,r6,r6u,r7⟩:=v;subst r1;have h2:=N.nv (Nv.of r3 (by simp)) r5;have dl:=N.len;have g4:V.get l=Φ (.lst (H.map lpD)):=r3.old _ _ (by simp;lia) q4;left;refine wOpt_of g4 ?_;left;refine wOpt_of r4 ?_;left;refine wNeed_of (by rw[length_append,length_map,length_map];lia) ?_
 left;rw[<-map_append];refine wOpt_of (zqu (zag _ _)) ?_;left;refine wNeed_of (by rw[length_append];lia) ?_
 left;have sl2:=ziQ (H++wrL t Ls);rw[length_append]at sl2;refine wNeed_of (by rw[length_map];lia) ?_
 left;refine wOpt_of (zag _ _) ?_;left;refine zam ?_;let E:=V.push (.lst ((H++wrL t Ls).map lpD));let G:=E.push (.lst ((zcs (H++wrL t Ls)).map lpD));have O:Sy as a K0 m (sD m b (pD lz) (.tup (Ls.map lD))) s w0 g L G:=(h2.push _).push _;have ln1:E.len=V.len+1:=plen _ _;have ln2:G.len=E.len+1:=plen _ _;have dl2:=h2.len;have lkE:lkOf G (.ref E.len)=[E.len]:=rfl;have h4:Sy as a K0 m (sD m b (pD lz) (.tup (Ls.map lD))) s w0 g L {G with lk:=[E.len]++G.lk}:=O.lk (by
  intro x A;rcases mem_append.mp A with z|z;rw[mem_singleton]at z;lia;exact O.hk x z) (by intro x h5 Q;have:=(O.f h5 Q).k;simp only[List.contains_eq_mem,decide_eq_false_iff_not,mem_append,mem_singleton,not_or]at this⊢;exact⟨by lia,this⟩)
 have okW:∀k∈zcs (H++wrL t Ls),1<=k.1.length/\k.1.length<=9/\0<=k.2.1/\k.2.1<m:=by intro k hk;rcases mem_append.mp ((zcr k _).mp hk) with z|z;exact q8 k z;obtain⟨x,A,e1,e2⟩:=zl1 z;have ok:=lo x A;have p1:=ok.p1;have p7:=ok.p7;have hh:=ok.hi;rw[e1]at p1 p7;rw[e2]at hh;exact⟨p1,by lia,hh.1,hh.2⟩
 refine W.mono (zal (λj Y T=>(∃u3 u4 u5 u6 u7,Y=[Φ (.ref a),Φ (.ref as),Φ (.int t),u3,u4,u5,u6,u7])/\Kl a {G with lk:=[E.len]++G.lk} T/\∃c,Sy as a K0 m (sD m b (pD lz) (.tup (Ls.map lD))) s w0 g c T/\c.length=L.length+j/\(∀x∈c,LtOk m x)/\c=L++((zcs (H++wrL t Ls)).take j).map (mkL t g)) (λ_ _=>False) _ 0 _ _ ⟨⟨_,_,_,_,_,rfl⟩,Kl.refl _ _,L,h4,rfl,Lo,by simp⟩ ?_) ?_;rintro j z Y T I ⟨⟨u3,u4,u5,u6,u7,rfl⟩,J,c,M,l1,l2,l3⟩;have hj:=(Β.mp I).1;rw[length_map]at hj;rw[getElem?_map]at I;cases B:(zcs (H++wrL t Ls))[j]? with
 |none=>rw[B]at I;exact nS I
 |some k=>
  rw[B]at I;cases I;obtain⟨k1,k2,k3,k4⟩:=okW k (mem_of_getElem? B);obtain⟨i,hi⟩:∃i:Nat,k.2.1=i:=⟨k.2.1.toNat,by lia⟩;refine⟨[Φ (.ref a),Φ (.ref as),Φ (.int t),u3,Φ (pD k.1),Φ (.int (i:Nat)),Φ (.int k.2.2),u7],by rw[<-hi];rfl,(zlI (n:=n) (i:=i) (p:=k.1) (w:=k.2.2) M (by lia) k1 k2 (by lia)).mono λf U hU=>?_⟩;cases f with
  |rt d=>exact hU.elim| nx Y=>
   obtain⟨⟨u,rfl⟩,kt2,x,xo,Q,h7⟩:=hU;refine⟨⟨_,_,_,_,_,rfl⟩,J.trans kt2,c++[x],Q,by rw[length_append];simp;lia,?_,by
    rw[l3,h7,show 0+j+1=j+1 by lia,List.take_succ,B,zero_add,map_append,append_assoc];congr 2;show [_]=[mkL t g k];unfold mkL;rw[hi]⟩
   intro y hy;rcases mem_append.mp hy with z|z;exact l2 y z;rw[mem_singleton]at z;subst z;exact xo
 rintro f T M;cases f with|rt d=>exact M.elim| nx Y=>obtain⟨⟨u3,u4,u5,u6,u7,rfl⟩,J,c,M,l1,l2,l3⟩:=M;rw[length_map]at l1;rw[zero_add,length_map,List.take_length]at l3;left;have o1:=h.o1;have o2:=h.o2;have C:Kl a S G:=(((q3.kl (by lia) (by lia)).trans (r3.kl (by simp;lia))).trans ((Mv.push [] V _).kl (by simp))).trans ((Mv.push [] E _).kl (by simp));refine⟨rfl,⟨J.frz.trans C.frz,C.lk,le_trans C.len J.len,λx o A e=>J.old x o A (C.old x o A e)⟩,g,c,M.lk ?_ ?_,by lia,by lia,l2,⟨λx=>?_,λz=>r6u (q8u z),by rw[l3,q10];rfl⟩⟩;intro x A;exact lt_of_lt_of_le (O.hk x A) J.len;intro x h5 Q;exact(O.f h5 Q).k;rw[r7,q9,or_assoc]
end
noncomputable def kpE(s w:Int)(k:Nat):MO:=.lst (if(k:Int)=s then [.tup [.int w,.tup []]] else [])
noncomputable def zbI(s w:Int):Nat->Nat->R.St->R.St
 |_,0,T=>T|k,c+1,T=>zbI s w (k+1) c (T.push (kpE s w k))
theorem zeL(s w:Int):∀(c k:Nat)(T:R.St),Mv [] T (zbI s w k c T)/\(zbI s w k c T).len=T.len+c
 |0,_,T=>⟨Mv.refl _ _,rfl⟩| c+1,k,T=>by obtain⟨a,b⟩:=zeL s w c (k+1) (T.push (kpE s w k));exact⟨(Mv.push [] T _).trans a,by rw[zbI,b,plen];lia⟩
theorem zfr(s w:Int):∀(c k j:Nat)(T:R.St),j<c->(zbI s w k c T).get (T.len+j)=Φ (kpE s w (k+j))
 |0,_,_,_,h=>by lia|c+1,k,0,T,_=>(zeL s w c (k+1) (T.push (kpE s w k))).1.old _ _ (by simp) (zag _ _)| c+1,k,j+1,T,h=>by have:=zfr s w c (k+1) j (T.push (kpE s w k)) (by lia);rw[plen,show T.len+1+j=T.len+(j+1) by lia,show k+1+j=k+(j+1) by lia]at this;exact this
theorem t_kp{cf:CF}{s w:Int}:∀(c k:Nat)(u:Option D)(T:R.St),
  zax [0] (evT cf (.tst (.con (.bl Γ)))) (evE cf (.ite (.cmp .Eq J0 J1) (.lst #[J2]) (.lst .nil))) ((List.range' k c).map λ(i:Nat)=>D.int i) [u,Φ (.int s),Φ (.tup [.int w,.tup []])] T=.ok ((List.range c).map λi=>.ref (T.len+i)) (zbI s w k c T)
 |0,_,_,_=>rfl| c+1,k,u,T=>by
  have ih:=t_kp (cf:=cf) (s:=s) (w:=w) c (k+1) (Φ (.int (k:Nat))) (T.push (kpE s w k));rw[List.range'_succ,ϋ];unfold zax;show Out.bind (.ok Γ T) _=_;rw[zaC,if_pos rfl];have e:evE cf (.ite (.cmp .Eq J0 J1) (.lst #[J2]) (.lst .nil)) [Φ (.int (k:Nat)),Φ (.int s),Φ (.tup [.int w,.tup []])] T=.ok (.ref T.len) (T.push (kpE s w k)):=by refine W.eq (wE_W _ ?_);unfold kpE;left;refine zcg (λc=>?_) (λc=>?_);rw[if_pos c];left;right;left;exact⟨rfl,rfl⟩;rw[if_neg c];left;right;left;exact⟨rfl,rfl⟩
  show Out.bind (evE cf (.ite (.cmp .Eq J0 J1) (.lst #[J2]) (.lst .nil)) [Φ (.int (k:Nat)),Φ (.int s),Φ (.tup [.int w,.tup []])] T) _=_;rw[e,zaC];show Out.bind (zax [0] _ _ ((List.range' (k+1) c).map _) [Φ (.int (k:Nat)),Φ (.int s),Φ (.tup [.int w,.tup []])] (T.push (kpE s w k))) _=_;rw[ih,zaC];show Out.ok _ _=Out.ok _ _;rw[List.range_succ_eq_map,ϋ,map_map];congr 1;congr 1;refine Ϙ λi _=>?_;show D.ref _=D.ref _;rw[plen];congr 1;lia
theorem zqt{S:R.St}{n x:Nat}(e:S.get x=Φ (.ins 0 []))(c:Fr S x):W (appW (callF prog (n+1)) 23 [.ref x] S) λd T=>d=.non/\Mv [x] S T/\T.len=S.len+1/\T.get x=Φ (bkD S.len)/\T.get S.len=Φ (.d3 []):=by refine zcH (F:=zdU) rfl rfl (wS_W _ ?_);have h:=get_lt e;left;obtain⟨i,a,b,g⟩:=zb7 (S:=S.push (.d3 [])) (f:="made") (v:=.ref S.len) (gs:=[("made",.ref S.len)]) (zae e) (c.mv (Mv.push [] S _)) (by simp) rfl;refine wOpt_of a ?_;left;exact⟨rfl,(Mv.push _ _ _).trans b,by rw[zbi a,plen],g,b.old _ _ (by simp;lia) (zag _ _)⟩
noncomputable def RnOk(r:Option Int)(b l:Int):Prop:=match r with|none=>l=b+1|some z=>z=l
section
variable{n as a m:Nat}{b s w l:Int}{r:Option Int}{lz:List Int}{Ls:List Ly}{S:R.St}
theorem zqs(I:Nat->List (K3×D)->List Lt->Prop)(I0:I 0 [] [])(Is:∀(j:Nat) c L G L',(j:Int)<l->I j c L->Rnd m lz Ls s w (j+1:Nat) c L G L'->I (j+1) G L')(m1:1<=m)(m7:m<=7)(s0:0<=s)(sm:s<m)(wd:-10^60<w/\w<10^60)(l1:1<=l)(l8:l<=8)(hr:RnOk r b l)(lo:∀x∈Ls,LyOk m x)(ln:Ls.length<=57)
  (e:S.get a=Φ (.ins 1 [])) (O:Fr S a) (gs:S.get as=Φ (sD m b (pD lz) (.tup (Ls.map lD)))) (o1:as<a) (hk:∀x∈S.lk,x<S.len) (fz:S.frz.length<=S.len) :
  W (appW (callF prog (n+4)) 27 [.ref a,.ref as,.int s,.int w,oD r] S) λd T=>d=.non/\Kl a S T/\∃K0 c L,Sy as a K0 m (sD m b (pD lz) (.tup (Ls.map lD))) s w c L T/\L.length<=2000/\(∀x∈L,LtOk m x)/\c.length<=3500/\I l.toNat c L:=by
 refine zcH (F:=zbv) rfl rfl (wS_W _ ?_);have la:=get_lt e;left;refine wOpt_of (zaH gs rfl) ?_;left;obtain⟨T1,h1,v1,g1⟩:=zb7 (f:="many") (v:=.int m) (gs:=[("many",.int m)]) e O (by simp) rfl;refine wOpt_of h1 ?_;left;have gs1:=v1.old _ _ (by simp;lia) gs;refine wOpt_of (zaH gs1 rfl) ?_;left;refine wOut_of (zeE (n:=n) ⟨s0,sm⟩) ?_;left;obtain⟨g,h2,v2,g2⟩:=zb7 (f:="sender") (v:=.int s) (gs:=[("many",.int m),("sender",.int s)]) g1 (O.mv v1) (by simp) rfl;refine wOpt_of h2 ?_;left;have Q:=v1.trans v2;have Y:=Q.old _ _ (by simp;lia) gs;have q:g.len=S.len:=by rw[zbi h2,zbi h1]
 refine wOut_of (zk5 (n:=n) wd) ?_;left;right;left;right;left;refine wOpt_of (zaH Y rfl) ?_;left;refine wOut_of (zhO (n:=n) l1 l8 hr) ?_;left;refine wOpt_of (zaH Y rfl) ?_;left;refine wNeed_of (by lia) ?_
 left;refine zam ?_;rw[show((List.range (m:Int).toNat).map λ(k:Nat)=>D.int (k:Int))=(List.range' 0 m).map λ(i:Nat)=>D.int i by rw[ϡ,List.range_eq_range']];refine W.of (t_kp m 0 Ψ _) ?_;refine wNeed_of (by simp;lia) ?_
 left;refine wNeed_of (by simp;lia) ?_
 left;obtain⟨pm,pl⟩:=zeL s w m 0 g;have e3:({(zbI s w 0 m g) with lk:=g.lk}:R.St)=zbI s w 0 m g:=zgB pm.lk;show wOpt (zbF (({(zbI s w 0 m g) with lk:=g.lk}:R.St).push (.lst (refs g.len m))) (.ref a) "keeping" (.ref ({(zbI s w 0 m g) with lk:=g.lk}:R.St).len)) _;rw[e3];let T4:=(zbI s w 0 m g).push (.lst (refs g.len m));have len4:T4.len=S.len+m+1:=by rw[plen,pl,q]
 have v24:Mv [a] g T4:=(pm.up (by simp)).trans (Mv.push _ _ _);have v4:=Q.trans v24;obtain⟨h,h5,v5,g5⟩:=zb7 (S:=T4) (f:="keeping") (v:=.ref (zbI s w 0 m g).len) (gs:=[("many",.int m),("sender",.int s),("keeping",.ref (zbI s w 0 m g).len)]) (zae (pm.old _ _ (by simp) g2)) (O.mv v4) (by simp) rfl;refine wOpt_of h5 ?_;left;have A:h.len=S.len+m+1:=by rw[zbi h5,len4]
 have v45:=v4.trans v5;have frN:∀x,S.len<=x->Fr S x:=λx J=>⟨by lia,by
  rw[Bool.eq_false_iff];intro z;have:=hk _ (List.contains_iff_mem.mp z);lia⟩
 refine zb6 ((zqt (n:=n+2) (S:=h.push (.ins 0 [])) (zag _ _) (((frN h.len (by lia)).mv v45).mv (Mv.push [] h _))).mono λd T6 q'=>?_);obtain⟨b1,b2,b3,b4,b5⟩:=q';subst b1;rw[plen]at b3 b4 b5;have v56:Mv [a,h.len] h T6:=(Mv.push _ _ _).trans (b2.up (by simp));have a5:a≠h.len:=by lia
 have g6:T6.get a=Φ (.ins 1 [("many",.int m),("sender",.int s),("keeping",.ref (zbI s w 0 m g).len)]):=b2.old _ _ (by simpa using a5) (zae g5);have v6:Mv [a,h.len] S T6:=(v45.up (by simp)).trans v56;refine wNeed_of rfl ?_;left;obtain⟨T7,h7,v7,g7⟩:=zb7 (f:="book") (v:=.ref h.len) (gs:=[("many",.int m),("sender",.int s),("keeping",.ref (zbI s w 0 m g).len),("book",.ref h.len)]) g6 (O.mv v6) (by simp) rfl;refine wOpt_of h7 ?_;left;right;left;have B:T7.len=S.len+m+3:=by rw[zbi h7,b3,A]
 obtain⟨C,h8,v8,g8⟩:=zb7 (S:=T7.push (.lst [])) (f:="sent") (v:=.ref T7.len) (gs:=[("many",.int m),("sender",.int s),("keeping",.ref (zbI s w 0 m g).len),("book",.ref h.len),("sent",.ref T7.len)]) (zae g7) ((O.mv (v6.trans (v7.up (by simp)))).mv (Mv.push [] T7 _)) (by simp) rfl;refine wOpt_of h8 ?_;left;have E:Mv [a] T6 C:=v7.trans ((Mv.push _ _ _).trans v8);have p:Mv [a,h.len] S C:=v6.trans (E.up (by simp));have v58:Mv [a,h.len] h C:=v56.trans (E.up (by simp));have v48:Mv [a,h.len] T4 C:=(v5.up (by simp)).trans v58;have ep:(zbI s w 0 m g).len=S.len+m:=by rw[pl,q]
 have len8:C.len=S.len+m+4:=by rw[zbi h8,plen,B]
 have y0:Sy as a S.len m (sD m b (pD lz) (.tup (Ls.map lD))) s w [] [] C:=by
  refine⟨o1,la,?_,p.old _ _ (by simp;lia) gs,?_,?_,?_,?_,?_,?_,?_,?_⟩;rw[g8,ep,A,B];rfl;rw[<-ep];refine v48.old _ _ (by simp;lia) ?_;rw[zag,q];rw[show S.len+m+1=h.len by lia];refine E.old _ _ (by simp;lia) ?_;rw[b4,A];rw[show S.len+m+2=h.len+1 by lia];exact E.old _ _ (by simp;lia) b5;rw[<-B];exact v8.old _ _ (by simp;lia) (zag _ _)
  . intro i hi;refine v48.old _ _ (by simp;lia) ?_;have:=zfr s w m 0 i g hi;rw[q,zero_add]at this;refine zae (this.trans ?_);unfold kpE dueL;rw[List.foldl_nil];split<;>rfl
  intro x J;exact .inl ((frN x J).mv p);intro x J;have:=hk x (by rw[<-p.lk];exact J);lia;rw[p.frz];exact fz
 refine wNeed_of (by lia) ?_
 left;refine zam ?_;refine W.mono (zal (λj δ T=>(∃u,δ=[Φ (.ref a),Φ (.ref as),Φ (.int s),Φ (.int w),Φ (oD r),Φ (.tup [.int w,.tup []]),Φ (.int l),u])/\Kl a C T/\∃c L,Sy as a S.len m (sD m b (pD lz) (.tup (Ls.map lD))) s w c L T/\c.length<=413*j/\L.length<=155*j/\(∀x∈L,LtOk m x)/\I j c L) (λ_ _=>False) _ 0 _ _ ⟨⟨Ψ,rfl⟩,Kl.refl _ _,[],[],y0,by simp,by simp,by simp,I0⟩ ?_) ?_;rintro j z δ T M ⟨⟨u,rfl⟩,N,c,L,y,k1,k2,k3,k4⟩;have hj:=(Β.mp M).1;have hjl:(j:Int)<l:=by simp at hj;lia
 have hj:j<8:=by lia
 obtain⟨t,rfl,t8,te⟩:∃t:Int,z=.int t/\t<=8/\t=(j+1:Nat):=by
  rw[getElem?_map]at M;cases H:(List.range (l+1-1).toNat)[j]? with
  |none=>rw[H]at M;exact nS M
  |some i=>rw[H]at M;cases M;have:=(Β.mp H).2;rw[List.getElem_range]at this;subst this;exact⟨_,rfl,by lia,by lia⟩
 refine⟨_,rfl,wS_W _ ?_⟩;left;refine wOpt_of (zaJ y.ga) ?_;left;refine wOpt_of rfl ?_;left;refine wNeed_of rfl ?_;left;refine zb6 ((zn1 (n:=n) (t:=t) m7 y lo ln t8 (by lia) (by lia) k3).mono λd U q'=>?_);obtain⟨q1,q2,kv2,L2,q3,q4,q5,q6,q7⟩:=q';left;rw[te]at q7;exact⟨⟨_,rfl⟩,N.trans q2,kv2,L2,q3,by lia,by lia,q6,by rw[show 0+j+1=j+1 by lia];exact Is j _ _ _ _ hjl (by rw[zero_add]at k4;exact k4) q7⟩;rintro f T h';cases f with|rt d=>exact h'.elim| nx δ=>obtain⟨⟨u,rfl⟩,N,c,L,y,k1,k2,k3,k4⟩:=h';have e9:({T with lk:=C.lk}:R.St)=T:=zgB N.lk;left;refine⟨rfl,?_,S.len,c,L,?_,?_,k3,?_,?_⟩;exact⟨N.frz.trans p.frz,p.lk,le_trans p.len N.len,λx o J e=>N.old x o J (p.old x o (by simp;lia) e)⟩;show Sy as a S.len m (sD m b (pD lz) (.tup (Ls.map lD))) s w c L {T with lk:=C.lk};rw[e9];exact y;simp at k2;lia;simp at k1;lia;rw[zero_add,length_map,length_range,show l+1-1=l by lia]at k4;exact k4
end
theorem wrL_iff{t:Int}{d:List Ly}{k:KP}:k∈wrL t d↔∃y∈d,y.1.1=t/\∃w,y.2=Φ w/\k=(y.1.2.1,y.1.2.2,w):=by
 unfold wrL;rw[List.mem_filterMap];constructor;rintro⟨y,b,e⟩;refine⟨y,b,?_⟩;split at e;rename_i c;cases a:y.2 with
 |none=>rw[a]at e;exact nS e
 |some w=>rw[a]at e;cases e;exact⟨c,w,rfl,rfl⟩
 exact nS e;rintro⟨y,b,c,w,a,rfl⟩;exact⟨y,b,by rw[if_pos c,a];rfl⟩
theorem zkl(s a:Int)(h:Nat):∀(M L:List Lt),∃N,dueL s a (L++M) h=dueL s a L h++N/\∀k∈N,∃x∈M,k=(x.w,x.p)/\x.to=(h:Int)/\hits s x=Γ
 | [],L=>⟨[],by simp,by simp⟩| x::M,L=>by
  obtain⟨N,e,i⟩:=zkl s a h M (L++[x]);have j:L++x::M=L++[x]++M:=by simp
  rw[j,e,zdN];by_cases c:x.to=(h:Int)/\hits s x=Γ;rw[if_pos c];by_cases d:(dueL s a L h).length<2/\x.w∉(dueL s a L h).map (·.1);refine⟨(x.w,x.p)::N,by unfold kpZ;rw[if_pos d];simp,λk b=>?_⟩;rcases mem_cons.mp b with z|z;exact⟨x,Ρ,z,c⟩;obtain⟨y,f,g⟩:=i k z;exact⟨y,Ν _ f,g⟩;refine⟨N,by unfold kpZ;rw[if_neg d],λk b=>?_⟩;obtain⟨y,f,g⟩:=i k b;exact⟨y,Ν _ f,g⟩;rw[if_neg c];exact⟨N,rfl,λk b=>by obtain⟨y,f,g⟩:=i k b;exact⟨y,Ν _ f,g⟩⟩
theorem zlK{s:Int}{x:Lt}(h:hits s x=Γ):(x.p.length:Int)=x.t:=by unfold hits at h;rw[Α,Α]at h;exact of_decide_eq_true h.2.1
noncomputable def TrS(m:Nat)(a:List Int)(ks:Nat->List Kp)(j:Nat)(x:K3):Prop:=∃i:Nat,i<m/\(i:Int)∉a/\∃k∈ks i,k.2.length<j/\x=((i:Int),k.2,k.1)
noncomputable def LiS(a:List Int)(b:List Ly)(j:Nat)(x:K3):Prop:=∃y∈b,y.1.1<=(j:Int)/\∃w,y.2=Φ w/\SL a y.1.2.1 w y.1.2.1.length x
structure Ik(m:Nat)(lz:List Int)(Ls:List Ly)(s w0:Int)(j:Nat)(kvs:List (K3×D))(L:List Lt):Prop where
 a:∀i,i<m->∀k∈dueL s w0 L i,k.2.length<=j
 b:∀x,x∈ks3 kvs↔TrS m lz (dueL s w0 L) j x\/LiS lz Ls j x
 n:(ks3 kvs).Nodup
theorem ik_0{m:Nat}{d:List Int}{b:List Ly}{s c:Int}(lo:∀y∈b,1<=y.1.1):Ik m d b s c 0 [] []:=by
 refine⟨λi _ k a=>?_,λx=>⟨λh=>absurd h not_mem_nil,?_⟩,List.nodup_nil⟩;unfold dueL at a;split at a;have:k=(c,[]):=by simpa using a
 subst this;exact le_refl _;exact absurd a not_mem_nil;rintro(⟨i,_,_,k,_,h,_⟩|⟨y,e,h,_⟩);exact absurd h (Nat.not_lt_zero _);have:=lo y e;lia
theorem zhu{m:Nat}{d:List Int}{f:List Ly}{s b:Int}{j:Nat}{c a:List (K3×D)}{L g:List Lt}(r:Rnd m d f s b (j+1:Nat) c L a g):∀i,∃N,dueL s b g i=dueL s b L i++N/\∀k∈N,k.2.length=j+1:=λi=>by obtain⟨N,e,h⟩:=zkl s b i ((zcs (wrT m d (dueL s b L) (j+1:Nat)++wrL (j+1:Nat) f)).map (mkL (j+1:Nat) a)) L;rw[<-r.l]at e;refine⟨N,e,λk l=>?_⟩;obtain⟨x,n,rfl,_,o⟩:=h k l;have:=zlK o;obtain⟨p,_,rfl⟩:=mem_map.mp n;have q:(mkL (j+1:Nat) a p).t=((j+1:Nat):Int):=rfl;dsimp only;lia
theorem zoi{m:Nat}{g:List Int}{p:List Ly}{s q:Int}{j:Nat}{t l:List (K3×D)}{L v:List Lt}(h:Ik m g p s q j t L)(r:Rnd m g p s q (j+1:Nat) t L l v):Ik m g p s q (j+1) l v:=by
 have a:=zhu r;refine⟨λi B k A=>?_,λx=>?_,r.n h.n⟩;obtain⟨N,e,u⟩:=a i;rw[e]at A;rcases mem_append.mp A with z|z;have:=h.a i B k z;lia;have:=u k z;lia;rw[r.k,h.b];have C:TrS m g (dueL s q v) (j+1) x↔TrS m g (dueL s q L) j x\/ST m g (dueL s q L) (j+1:Nat) x:=by constructor;rintro⟨i,b,f,k,d,n,o⟩;obtain⟨N,e,u⟩:=a i;rw[e]at d;rcases mem_append.mp d with z|z;by_cases c:k.2.length<j;exact .inl ⟨i,b,f,k,z,c,o⟩;exact .inr ⟨i,b,f,k,z,by lia,o⟩;have:=u k z;lia;rintro(⟨i,b,f,k,d,n,o⟩|⟨i,b,f,k,d,n,o⟩);obtain⟨N,e,u⟩:=a i;exact⟨i,b,f,k,by rw[e];exact mem_append_left _ d,by lia,o⟩;obtain⟨N,e,u⟩:=a i;exact⟨i,b,f,k,by rw[e];exact mem_append_left _ d,by lia,o⟩
 have E:LiS g p (j+1) x↔LiS g p j x\/∃k∈wrL (j+1:Nat) p,SL g k.1 k.2.2 k.1.length x:=by constructor;rintro⟨y,b,f,w,d,n⟩;by_cases c:y.1.1<=(j:Int);exact .inl ⟨y,b,c,w,d,n⟩;exact .inr ⟨(y.1.2.1,y.1.2.2,w),wrL_iff.mpr ⟨y,b,by lia,w,d,rfl⟩,n⟩;rintro(⟨y,b,f,w,d,n⟩|⟨k,b,f⟩);exact⟨y,b,by lia,w,d,n⟩;obtain⟨y,d,n,w,o,rfl⟩:=wrL_iff.mp b;exact⟨y,d,by lia,w,o,f⟩
 rw[C,E];constructor;rintro((z|z)|z|z);exact .inl (.inl z);exact .inr (.inl z);exact .inl (.inr z);exact .inr (.inr z);rintro((z|z)|z|z);exact .inl (.inl z);exact .inr (.inl z);exact .inl (.inr z);exact .inr (.inr z)
structure Ig(m:Nat)(lz:List Int)(Ls:List Ly)(s w0:Int)(j:Nat)(kvs:List (K3×D))(L:List Lt):Prop where
 i:Ik m lz Ls s w0 j kvs L
 g:∀x∈L,1<=x.t/\x.t<=(j:Int)/\(x.g=Γ↔∀(i:Nat)(h:Int),x.p[i]?=Φ h->TrS m lz (dueL s w0 L) x.t.toNat (h,x.p.take i,x.w)\/LiS lz Ls x.t.toNat (h,x.p.take i,x.w))
theorem ig_0{m:Nat}{b:List Int}{a:List Ly}{s c:Int}(lo:∀y∈a,1<=y.1.1):Ig m b a s c 0 [] []:=⟨ik_0 lo,λx d=>absurd d not_mem_nil⟩
theorem zkO{m:Nat}{h:List Int}{ks a:Nat->List Kp}{j t:Nat}{x:K3}(e:∀i,∃N,a i=ks i++N/\∀k∈N,k.2.length=j+1)(n:t<=j+1):TrS m h a t x↔TrS m h ks t x:=by constructor;rintro⟨i,c,d,k,b,f,g⟩;obtain⟨N,q,l⟩:=e i;rw[q]at b;rcases mem_append.mp b with z|z;exact⟨i,c,d,k,z,f,g⟩;have:=l k z;lia;rintro⟨i,c,d,k,b,f,g⟩;obtain⟨N,q,l⟩:=e i;exact⟨i,c,d,k,by rw[q];exact mem_append_left _ b,f,g⟩
theorem zoj{m:Nat}{d:List Int}{e:List Ly}{s f:Int}{j:Nat}{b a:List (K3×D)}{L g:List Lt}(h:Ig m d e s f j b L)(r:Rnd m d e s f (j+1:Nat) b L a g):Ig m d e s f (j+1) a g:=by have c:=zhu r;have l:=zoi h.i r;refine⟨l,λx n=>?_⟩;rw[r.l]at n;rcases mem_append.mp n with z|z;obtain⟨o,t,p⟩:=h.g x z;refine⟨o,by lia,p.trans ?_⟩;refine forall_congr' λi=>forall_congr' λq=>imp_congr_right λ_=>or_congr_left (zkO c (by lia)).symm;obtain⟨k,_,rfl⟩:=mem_map.mp z;have u:(mkL (j+1:Nat) a k).t=((j+1:Nat):Int):=rfl;refine⟨by lia,by lia,?_⟩;show gdB a k.1 k.2.2=Γ↔_;rw[zon];exact forall_congr' λi=>forall_congr' λq=>imp_congr_right λ_=>l.b _
theorem Sy.mvA{as a c m:Nat}{f:MO}{s g:Int}{b:List (K3×D)}{L:List Lt}{S T:R.St}{A:List Nat}(h:Sy as a c m f s g b L S)(v:Mv A S T)(j:∀x∈A,c+m+3<x):Sy as a c m f s g b L T:=by have l:=h.o1;have n:=h.o2;have k:∀x o,x<=c+m+3->S.get x=Φ o->T.get x=Φ o:=λx o d e=>v.old _ _ (λz=>by have:=j x z;lia) e;exact⟨l,n,k _ _ (by lia) h.ga,k _ _ (by lia) h.gs,k _ _ (by lia) h.gK,k _ _ (by lia) h.gB,k _ _ (by lia) h.gD,k _ _ (by lia) h.gL,λi p=>k _ _ (by lia) (h.gi i p),λx d=>(h.fr x d).imp (λq=>q.mv v) id,λx d=>lt_of_lt_of_le (h.hk x (by rw[<-v.lk];exact d)) v.len,by rw[v.frz];exact h.fz⟩
theorem ziM{a:Type}{L:List a}{i:Nat}{x:a}(h:L[i]?=Φ x):L.take (i+1)=L.take i++[x]:=by rw[List.take_succ,h];rfl
structure Ky(a K0 m:Nat)(s:Int)(ks:Nat->List Kp)(S:R.St):Prop where
 ga:S.get a=Φ (.ins 1 (sgF m s K0))
 gK:S.get (K0+m)=Φ (.lst (refs K0 m))
 gi:∀i,i<m->S.get (K0+i)=Φ (.lst ((ks i).map kD))
 o:a<K0
theorem Sy.ky{as a c m:Nat}{e:MO}{s d:Int}{b:List (K3×D)}{L:List Lt}{S:R.St}(h:Sy as a c m e s d b L S):Ky a c m s (dueL s d L) S:=⟨h.ga,h.gK,h.gi,h.o2⟩
theorem Ky.ent{a b m:Nat}{s:Int}{ks:Nat->List Kp}{S:R.St}(h:Ky a b m s ks S):Ky a b m s ks S.enter:=⟨by rw[zaB];exact h.ga,by rw[zaB];exact h.gK,λi c=>by rw[zaB];exact h.gi i c,h.o⟩
theorem Ky.mv{a b m:Nat}{s:Int}{ks:Nat->List Kp}{S T:R.St}{A:List Nat}(h:Ky a b m s ks S)(v:Mv A S T)(c:∀x∈A,b+m<x):Ky a b m s ks T:=by have k:∀x o,x<=b+m->S.get x=Φ o->T.get x=Φ o:=λx o f e=>v.old _ _ (λz=>by have:=c x z;lia) e;have:=h.o;exact⟨k _ _ (by lia) h.ga,k _ _ (by lia) h.gK,λi d=>k _ _ (by lia) (h.gi i d),h.o⟩
section
variable{n a K0 m:Nat}{s:Int}{ks:Nat->List Kp}{S:R.St}
theorem zqq{i:Nat}(h:Ky a K0 m s ks S)(b:i<m)(dl:(ks i).length<=2):appW (callF prog (n+4)) 29 [.ref a,.int (i:Nat)] S=.ok (.ref S.len) (S.push (.lst ((ks i).map kD))):=by
 refine zdV rfl rfl ?_;left;refine wOpt_of (zaH h.ga rfl) ?_;left;refine wOpt_of (zaH h.ga rfl) ?_;left;refine wOut_of (zeE (show 0<=(i:Int)/\(i:Int)<(m:Int) by lia)) ?_;left;refine wOpt_of h.gK ?_;left;refine wOpt_of (zgh b) ?_;left;refine wOpt_of (h.gi i b) ?_;left;refine wNeed_of (by rw[length_map];lia) ?_
 left;exact⟨rfl,rfl⟩
end
theorem zjz{n as a c m:Nat}{d:MO}{s e:Int}{b:List (K3×D)}{L:List Lt}{S:R.St}(h:Sy as a c m d s e b L S)(f:L.length<=2000):appW (callF prog (n+1)) 30 [.ref a] S=.ok (.ref S.len) (S.push (.lst (L.map seD))):=by
 refine zdV rfl rfl ?_;left;refine wOpt_of (zaH h.ga rfl) ?_;left;refine wOpt_of h.gL ?_;left;refine wNeed_of (by rw[length_map];lia) ?_
 left;exact⟨rfl,rfl⟩
noncomputable def DV(b:Nat)(Q:K3->Int->Prop)(c:Nat)(T:R.St):Prop:=∃a:List (K3×D),T.get b=Φ (.d3 a)/\(∀x d,zbd a x=Φ d->∃v:Int,d=.int v)/\(∀x (t:Int),(∃v,zbd a x=Φ (.int v)/\v<=t)↔Q x t)/\a.length<=c/\∀z∈a,∃v:Int,z.2=.int v
theorem DV.old{a c:Nat}{Q:K3->Int->Prop}{A:List Nat}{S T:R.St}(h:DV a Q c S)(v:Mv A S T)(n:a∉A):DV a Q c T:=by obtain⟨b,g,h⟩:=h;exact⟨b,v.old _ _ n g,h⟩
theorem DV.imp{a c d:Nat}{P Q:K3->Int->Prop}{T:R.St}(h:DV a P c T)(e:∀x t,P x t↔Q x t)(l:c<=d):DV a Q d T:=by obtain⟨b,g,f,i,k,j⟩:=h;exact⟨b,g,f,λx t=>(i x t).trans (e x t),by lia,j⟩
theorem zgR(a:List (K3×D))(k:K3)(v:D)(x:K3):zbd (zbH a k v) x=if x=k then Φ v else zbd a x:=by
 unfold zbH;by_cases c:k∈a.map (·.1);rw[if_pos c];induction a with
 |nil=>cases c
 |cons z a g=>
  obtain⟨b,l⟩:=z;unfold zbd at g⊢;rw[ϋ];by_cases e:b=k;subst e;rw[if_pos rfl];by_cases d:x=b;subst d;simp;rw[if_neg d,Ϫ,Ϫ];simp only[decide_eq_false (show ¬b=x from λz=>d z.symm)];by_cases f:b∈a.map (·.1);have:=g f;rw[if_neg d]at this;exact this;congr 2;refine(Ϙ λy h=>?_).trans (List.map_id _);have:¬y.1=b:=λz=>f (mem_map.mpr ⟨y,h,z⟩);simp only[if_neg this];rfl;rw[if_neg e];have f:k∈a.map (·.1):=by rcases mem_cons.mp c with z|z;exact absurd z.symm e;exact z
  have:=g f;rw[Ϫ,Ϫ];by_cases i:b=x;subst i;simp[e];simp only[decide_eq_false i];exact this
 rw[if_neg c];unfold zbd;rw[List.find?_append];by_cases e:x=k;subst e;rw[if_pos rfl,List.find?_eq_none.mpr λy h=>by have:¬y.1=x:=λz=>c (mem_map.mpr ⟨y,h,z⟩);simpa using this];simp;rw[if_neg e];have:List.find? (λj:K3×D=>decide (j.1=x)) [(k,v)]=Ψ:=by simp[show ¬k=x from λz=>e z.symm]
 rw[this,Option.or_none]
theorem zjd{a c:Nat}{Q:K3->Int->Prop}{T:R.St}{k:K3}{v:Int}(l:Fr T a)(h:DV a Q c T)(B:c<16777216) :
  ∃U,dPut T (.ref a) (.tup [.int k.1,pD k.2.1,.int k.2.2]) (.int v)=Φ U/\Mv [a] T U/\DV a (λx t=>(x=k/\v<=t)\/(x≠k/\Q x t)) (c+1) U:=by
 obtain⟨i,g,m,n,C,j⟩:=h;obtain⟨U,o,p,r⟩:=zg6 (u:=.d3 (zbH i k (.int v))) l g;refine⟨U,?_,p,_,r,λx d b=>?_,λx t=>?_,by have:=put3_len i k (.int v);lia,λz f=>?_⟩;unfold dPut;dsimp only;rw[g];dsimp only;rw[key3_of k.1 k.2.1 k.2.2,bind_some,if_pos (by lia),o];rw[zgR]at b;split at b;cases b;exact⟨v,rfl⟩;exact m x d b;rw[zgR];by_cases e:x=k;rw[if_pos e];constructor;rintro⟨E,s,w⟩;cases s;exact .inl ⟨e,w⟩;rintro(q|q);exact⟨v,rfl,q.2⟩;exact absurd e q.1;rw[if_neg e,n];exact⟨λq=>.inr ⟨e,q⟩,λq=>q.elim (λz=>absurd z.1 e) (·.2)⟩;unfold zbH at f;split at f;obtain⟨y,A,rfl⟩:=mem_map.mp f;split;exact⟨v,rfl⟩;exact j y A;rcases mem_append.mp f with q|q;exact j z q;rw[mem_singleton]at q;subst q;exact⟨v,rfl⟩
noncomputable def fB:CS:=match Nat.repeat CS.rest 1 c_law_first.body with|.forS _ _ b _=>b|_=>.nil
noncomputable def fB1:CS:=match fB with|.ifS _ (.forS _ _ b _) _ _=>b|_=>.nil
noncomputable def fC:CS:=match Nat.repeat CS.rest 2 c_law_first.body with|.forS _ _ b _=>b|_=>.nil
noncomputable def fC1:CS:=match fC with|.ifS _ (.forS _ _ b _) _ _=>b|_=>.nil
noncomputable abbrev Ef(a m b:Nat)(us:List (Option D)):Ev:=[Φ (.ref a),Φ (.int (m:Nat)),Φ (.ref 0),Φ (.ref 3),Φ (.ref b)]++us
noncomputable def AddH(ks:List Kp)(i:Nat)(x:K3)(t:Int):Prop:=∃k∈ks,x=((i:Int),k.2,k.1)/\(k.2.length:Int)+1<=t
theorem zks{S:R.St}{l:Nat}{a:List (K3×D)}(h:S.get l=Φ (.d3 a)):d3K S (.ref l)=Φ a:=by unfold d3K;dsimp only;rw[h]
theorem zhw{S:R.St}{l:Nat}{a:List (K3×D)}(h:S.get l=Φ (.d3 a))(k:K3):zkt S (.ref l) (.tup [.int k.1,pD k.2.1,.int k.2.2])=Φ (zbd a k):=by unfold zkt;rw[zks h,key3_of k.1 k.2.1 k.2.2];rfl
section
variable{n a K0 m ed c:Nat}{s:Int}{ks:Nat->List Kp}{Q:K3->Int->Prop}
theorem zss{cf:CF}{S:R.St}{i:Nat}{k:Kp}{g j b d:Option D}(l:Fr S ed)(h:DV ed Q c S)(o:∀x t,Q x t->(x.2.1.length:Int)+1<=t)(v:c<1000) :
  W (exS cf fB1 (Ef a m ed [Φ (.int (i:Nat)),Φ (.int k.1),Φ (pD k.2),g,j,b,d]) S) λf T=>match f with|.nx p=>p=Ef a m ed [Φ (.int (i:Nat)),Φ (.int k.1),Φ (pD k.2),g,j,b,d]/\Mv [ed] S T/\DV ed (λx t=>Q x t\/(x=((i:Int),k.2,k.1)/\(k.2.length:Int)+1<=t)) (c+1) T|.rt _=>False:=by
 refine wS_W _ ?_;left;right;left;obtain⟨U,q,r,u⟩:=zjd (k:=((i:Int),k.2,k.1)) l h (by lia);rw[length_map];refine wOpt_of q ?_;left;refine⟨rfl,r,u.imp (λx t=>?_) (le_refl _)⟩;constructor;rintro(z|z);exact .inr z;exact .inl z.2;rintro(z|z);by_cases e:x=((i:Int),k.2,k.1);have:=o x t z;rw[e]at this;exact .inl ⟨e,this⟩;exact .inr ⟨e,z⟩;exact .inl z
theorem zre{S:R.St}{i:Nat}{E:List Int}{b l J L o p:Option D}(y:Ky a K0 m s ks S)(k2:(ks i).length<=2)(hi:i<m)(g0:S.get 0=Φ (.lst (E.map .int)))(fz:S.frz.length<=ed)(lk:S.lk=[])(h:DV ed Q c S)(hQ:∀x t,Q x t->(x.2.1.length:Int)+1<=t)(hc:c<900) :
  W (exS (callF prog (n+5)) fB (Ef a m ed [Φ (.int (i:Nat)),b,l,J,L,o,p]) S) λf T=>match f with|.nx w=>(∃b l,w=Ef a m ed [Φ (.int (i:Nat)),b,l,J,L,o,p])/\Mv [ed] S T/\DV ed (λx t=>Q x t\/((i:Int)∉E/\AddH (ks i) i x t)) (c+2) T|.rt _=>False:=by
 have el:ed<S.len:=by obtain⟨Y,g,_⟩:=h;exact get_lt g
 generalize B:fB1=ib;refine wS_W _ ?_;left;refine wOpt_of (zfv g0 (i:Int)) ?_;left;refine zkL (λd=>?_) (λd=>?_);have M:(i:Int)∉E:=by simpa using d
 left;refine wOpt_of (zaJ y.ga) ?_;left;refine wOpt_of rfl ?_;left;refine wNeed_of rfl ?_;left;refine wOut_of (zqq (n:=n+1) y hi k2) ?_;left;refine wOpt_of (zag _ _) ?_;left;refine zam ?_;let G:=S.push (.lst ((ks i).map kD));let N:R.St:={G with lk:=[S.len]++G.lk};have v1:Mv [ed] S G:=Mv.push _ _ _;have h1:DV ed Q c G:=h.old (Mv.push [] S _) (by simp);have f1:Fr N ed:=⟨fz,by
  show([S.len]++S.lk).contains ed=Δ;rw[lk];simp;lia⟩
 show W (zbf [6,7] (exS (callF prog (n+5)) fB1) _ _ N) _;rw[B];refine W.mono (zal (λj w T=>(∃b l,w=Ef a m ed [Φ (.int (i:Nat)),b,l,J,L,o,p])/\Mv [ed] N T/\DV ed (λx t=>Q x t\/AddH ((ks i).take j) i x t) (c+j) T) (λ_ _=>False) _ 0 _ _ ⟨⟨_,_,rfl⟩,Mv.refl _ _,h1.imp (λx t=>⟨.inl,λz=>z.elim id λu=>(by obtain⟨k,hk,_⟩:=u;exact absurd hk (by rw[List.take_zero];exact not_mem_nil))⟩) (le_refl _)⟩ ?_) ?_;rintro j z w T A ⟨⟨b,l,rfl⟩,v,H⟩;have hj:=(Β.mp A).1;rw[length_map]at hj;rw[getElem?_map]at A;cases r:(ks i)[j]? with
 |none=>rw[r]at A;exact nS A
 |some k=>
  rw[r]at A;cases A;subst B;refine⟨_,rfl,(zss (k:=k) (f1.mv v) H (λx t q=>q.elim (hQ x t) λ⟨C,_,e,h3⟩=>by rw[e];exact h3) (by lia)).mono λf U hU=>?_⟩;cases f with
  |rt d=>exact hU.elim| nx w=>
   obtain⟨rfl,v2,h2⟩:=hU;refine⟨⟨_,_,rfl⟩,v.trans v2,h2.imp (λx t=>?_) (by lia)⟩;rw[show 0+j+1=j+1 by lia,ziM r,zero_add];constructor;rintro((z|⟨C,O,I⟩)|z);exact .inl z;exact .inr ⟨C,mem_append_left _ O,I⟩;exact .inr ⟨k,by simp,z⟩;rintro(z|⟨C,O,I⟩);exact .inl (.inl z);rcases mem_append.mp O with e|e;exact .inl (.inr ⟨C,e,I⟩);have:C=k:=by simpa using e
   subst this;exact .inr I
 rintro f T h';cases f with|rt d=>exact h'.elim| nx w=>obtain⟨⟨b,l,rfl⟩,v,H⟩:=h';rw[zero_add,length_map,List.take_length]at H;left;refine⟨⟨_,_,rfl⟩,v1.trans v.lock,?_⟩;obtain⟨Y,g,e0,e1,e3,e4⟩:=H;refine⟨Y,g,e0,λx t=>?_,by lia,e4⟩;rw[e1];exact or_congr_right ⟨λz=>⟨M,z⟩,λz=>z.2⟩
 have M:¬(i:Int)∉E:=by simpa using d
 left;exact⟨⟨_,_,rfl⟩,Mv.refl _ _,h.imp (λx t=>⟨.inl,λz=>z.elim id λz=>absurd z.1 M⟩) (by lia)⟩
theorem zsl{cf:CF}{S:R.St}{j:Nat}{x:Ly}{v:Int}{E:List Int}{N o:Option D}(G:x.2=Φ v)(I:j<x.1.2.1.length)(g0:S.get 0=Φ (.lst (E.map .int)))(hf:Fr S ed)(h:DV ed (λy t=>Q y t\/(SL E x.1.2.1 v j y/\x.1.1<=t)) c S)(hc:c<1000) :
  W (exS cf fC1 (Ef a m ed [N,Φ (.int v),Φ (pD x.1.2.1),Φ (.int x.1.1),Φ (.int x.1.2.2),Φ (.int (j:Nat)),o]) S) λf T=>match f with|.nx δ=>(∃o,δ=Ef a m ed [N,Φ (.int v),Φ (pD x.1.2.1),Φ (.int x.1.1),Φ (.int x.1.2.2),Φ (.int (j:Nat)),o])/\Mv [ed] S T/\DV ed (λy t=>Q y t\/(SL E x.1.2.1 v (j+1) y/\x.1.1<=t)) (c+1) T|.rt _=>False:=by
 have p:x.1.2.1[j]?=Φ x.1.2.1[j]:=Ε I;obtain⟨O,Y,h1,h2,h3,h4⟩:=id h;refine wS_W _ ?_;left;refine wOpt_of (zcp I) ?_;left;refine wOpt_of (zmz g0 _) ?_;left;refine zcg (λe=>?_) (λe=>?_);left;refine wOpt_of (zcp I) ?_;left;right;left;rw[zdO,zfU];left;refine wOpt_of (zks Y) ?_;left;refine wOpt_of (zhw Y (x.1.2.1[j],x.1.2.1.take j,v)) ?_;left;have fin:∀w:Int,(∀t,(w<=t↔(∃J,zbd O (x.1.2.1[j],x.1.2.1.take j,v)=Φ (.int J)/\J<=t)\/x.1.1<=t))->∃U,dPut S (.ref ed) (.tup [.int x.1.2.1[j],pD (x.1.2.1.take j),.int v]) (.int w)=Φ U/\Mv [ed] S U/\DV ed (λy t=>Q y t\/(SL E x.1.2.1 v (j+1) y/\x.1.1<=t)) (c+1) U:=λw hw=>by obtain⟨U,u,A,B⟩:=zjd (k:=(x.1.2.1[j],x.1.2.1.take j,v)) (v:=w) hf h (by lia);refine⟨U,u,A,B.imp (λy t=>?_) (le_refl _)⟩;constructor;rintro(⟨z,z2⟩|⟨z,q|⟨⟨i,q,g,b⟩,l⟩⟩);rw[hw,h2]at z2;subst z;rcases z2 with (q|⟨⟨i,q,g,b⟩,l⟩)|q;exact .inl q;exact .inr ⟨⟨i,q,ϝ g,b⟩,l⟩;exact .inr ⟨⟨j,_,ϧ _,p,e,rfl⟩,q⟩;exact .inl q;exact .inr ⟨⟨i,q,ϝ g,b⟩,l⟩;intro z;by_cases H:y=(x.1.2.1[j],x.1.2.1.take j,v);refine .inl ⟨H,?_⟩;rw[hw,h2];subst H;rcases z with q|q;exact .inl (.inl q);exact .inr q.2;refine .inr ⟨H,?_⟩;rcases z with q|⟨⟨i,q,g,b,l,C⟩,L⟩;exact .inl q;rcases Nat.lt_succ_iff_lt_or_eq.mp g with r|r;exact .inr ⟨⟨i,q,r,b,l,C⟩,L⟩;subst r;rw[p]at b;cases b;exact absurd C H
 cases G:zbd O (x.1.2.1[j],x.1.2.1.take j,v) with
 |none=>obtain⟨U,u,A,B⟩:=fin (if x.1.1<x.1.1 then x.1.1 else x.1.1) (λt=>by rw[G];simp);left;refine wOpt_of u ?_;left;exact⟨⟨_,rfl⟩,A,B⟩| some d=>
  obtain⟨M,rfl⟩:=h1 _ _ G;obtain⟨U,u,A,B⟩:=fin (if x.1.1<M then x.1.1 else M) (λt=>by
   rw[G];constructor;intro q;split at q;exact .inr q;exact .inl ⟨M,rfl,q⟩;rintro(⟨J,g,b⟩|q)
   . cases g;split<;>lia
   . split<;>lia)
  left;refine wOpt_of u ?_;left;exact⟨⟨_,rfl⟩,A,B⟩
 left;refine⟨⟨_,rfl⟩,Mv.refl _ _,h.imp (λy t=>?_) (by lia)⟩;constructor;rintro(z|⟨⟨i,g,b,l⟩,q⟩);exact .inl z;exact .inr ⟨⟨i,g,ϝ b,l⟩,q⟩;rintro(z|⟨⟨i,g,b,l,C,L⟩,q⟩);exact .inl z;rcases Nat.lt_succ_iff_lt_or_eq.mp b with r|r;exact .inr ⟨⟨i,g,r,l,C,L⟩,q⟩;subst r;rw[p]at l;cases l;exact absurd C e
noncomputable def AddL(b:List Int)(x:Ly)(y:K3)(t:Int):Prop:=∃v,x.2=Φ v/\SL b x.1.2.1 v x.1.2.1.length y/\x.1.1<=t
theorem zsm{cf:CF}{S:R.St}{x:Ly}{G:List Int}{H b l:Option D}(Y:x.1.2.1.length<=9)(g0:S.get 0=Φ (.lst (G.map .int)))(n0:ed≠0)(hf:Fr S ed)(h:DV ed Q c S)(hc:c<900) :
  W (exS cf fC (Ef a m ed [H,Φ (oD x.2),Φ (pD x.1.2.1),Φ (.int x.1.1),Φ (.int x.1.2.2),b,l]) S) λf T=>match f with|.nx w=>(∃b l,w=Ef a m ed [H,Φ (oD x.2),Φ (pD x.1.2.1),Φ (.int x.1.1),Φ (.int x.1.2.2),b,l])/\Mv [ed] S T/\DV ed (λy t=>Q y t\/AddL G x y t) (c+9) T|.rt _=>False:=by
 obtain⟨⟨t,p,o⟩,ww⟩:=x;dsimp only at Y⊢;generalize A:fC1=ib;refine wS_W _ ?_;left;cases ww with
 |none=>left;exact⟨⟨_,_,rfl⟩,Mv.refl _ _,h.imp (λy t=>⟨.inl,λz=>z.elim id λk'=>(by obtain⟨v,I,_⟩:=k';exact nS I)⟩) (by lia)⟩| some v=>
  left;refine wNeed_of (by rw[length_map];lia) ?_
  left;refine zam ?_;show W (zbf [10] (exS cf fC1) _ _ S) _;rw[A];rw[show((List.range ((p.map D.int).length:Int).toNat).map λ(k:Nat)=>D.int (k:Int))=(List.range p.length).map λ(k:Nat)=>D.int (k:Int) by rw[length_map,ϡ]];refine W.mono (zal (λj w T=>(∃b l,w=Ef a m ed [H,Φ (.int v),Φ (pD p),Φ (.int t),Φ (.int o),b,l])/\Mv [ed] S T/\DV ed (λy J=>Q y J\/(SL G p v j y/\t<=J)) (c+j) T) (λ_ _=>False) _ 0 _ _ ⟨⟨b,l,rfl⟩,Mv.refl _ _,h.imp (λy t=>⟨.inl,λz=>z.elim id λz'=>(by obtain⟨⟨i,_,h,_⟩,_⟩:=z';exact absurd h (Nat.not_lt_zero _))⟩) (le_refl _)⟩ ?_) ?_;rintro j z w T B ⟨⟨b,l,rfl⟩,r,C⟩;rw[getElem?_map]at B;have L:j<p.length/\z=.int (j:Nat):=by
   cases e:(List.range p.length)[j]? with
   |none=>rw[e]at B;exact nS B
   |some q=>rw[e]at B;obtain⟨E,M⟩:=Β.mp e;rw[List.getElem_range]at M;rw[length_range]at E;subst M;cases B;exact⟨E,rfl⟩
  obtain⟨L,rfl⟩:=L;subst A;rw[zero_add]at C⊢;refine⟨_,rfl,(zsl (x:=((t,p,o),Φ v)) rfl L (r.old _ _ (by simp;lia) g0) (hf.mv r) C (by lia)).mono λf U N=>?_⟩;cases f with|rt d=>exact N.elim| nx w=>obtain⟨⟨u,rfl⟩,v2,h2⟩:=N;exact⟨⟨_,_,rfl⟩,r.trans v2,h2⟩
  rintro f T O;cases f with|rt d=>exact O.elim| nx w=>obtain⟨⟨b,l,rfl⟩,r,C⟩:=O;rw[zero_add,length_map,length_range]at C;left;refine⟨⟨_,_,rfl⟩,⟨r.frz,rfl,r.len,r.old⟩,?_⟩;obtain⟨dk,g,q0,E,q3,q4⟩:=C;refine⟨dk,g,q0,λy J=>?_,by lia,q4⟩;rw[E];exact or_congr_right ⟨λz=>⟨v,rfl,z.1,z.2⟩,λ⟨v',I,z⟩=>by cases I;exact z⟩
end
theorem zmS{S T:R.St}{l:Nat}{a:List (K3×D)}{Q:D->R.St->Prop}(d:S.len<=l)(b:T.get l=Φ (.d3 a))(q:Q (.ref l) ⟨S.frz,S.new++T.new,S.lk⟩):wFin S (.rt (.ref l)) T Q:=by
 have c:flat S.len (.ref l)=Δ:=by simp[flat];omega
 unfold wFin;rw[zhs];unfold zcN;simp only[c,b,Υ,if_false];exact q
theorem zkk{S T:R.St}(h:T.frz=S.frz++S.new)(x:Nat):(⟨S.frz,S.new++T.new,S.lk⟩:R.St).get x=T.get x:=by
 unfold R.St.get;dsimp only;rw[h];by_cases b:x<S.frz.length;rw[if_pos b,if_pos (by rw[length_append];lia),getElem?_append_left b];rw[if_neg b];by_cases a:x<(S.frz++S.new).length;rw[if_pos a];rw[length_append]at a;have d:x-S.frz.length<S.new.length:=by lia
 have c:S.frz.length<=x:=by lia
 rw[getElem?_append_left d,getElem?_append_right c];rw[if_neg a];rw[length_append]at a;have c:S.new.length<=x-S.frz.length:=by lia
 rw[getElem?_append_right c,length_append];congr 1;lia
theorem zil:c_law_first.body=.asg 4 .dnew3 (.forS [5] (.rng1 J1) fB (.forS [8,7,9,6] (.val J3) fC (.ret J4 .nil))):=rfl
theorem zso{P:List Fn}{F:Fn}{f n:Nat}{a:List D}{S:R.St}{Q:D->R.St->Prop}(h:P[f]?=Φ F)(b:a.length=F.np)(w:W (exS (callF P n) F.body (zaP F a) S.enter) λr T=>wFin S r T Q)(c:F.prim=Ψ:=by rfl) :
  W (app (callF P (n+1)) f a S) Q:=by
 rw[zf9 h b c,zab];refine w.mono λr T q=>?_;unfold wFin at q;exact q
noncomputable def FstP(m:Nat)(a:List Int)(b:List Ly)(ks:Nat->List Kp)(x:K3)(t:Int):Prop:=(∃i:Nat,i<m/\(i:Int)∉a/\AddH (ks i) i x t)\/∃z∈b,AddL a z x t
theorem znr{n a K0 m:Nat}{s:Int}{ks:Nat->List Kp}{S:R.St}{r:List Int}{w:List Ly}(y:Ky a K0 m s ks S)(k2:∀i,(ks i).length<=2)(m7:m<=7)(g0:S.get 0=Φ (.lst (r.map .int)))(g3:S.get 3=Φ (.lst (w.map lD)))(p7:∀x∈w,x.1.2.1.length<=7)(ll:w.length<=57) :
  W (app (callF prog (n+6)) 21 [.ref a,.int (m:Nat),.ref 0,.ref 3] S) λd U=>d=.ref S.len/\Mv [] S U/\DV S.len (FstP m r w ks) 600 U:=by
 refine zso rfl rfl ?_;have hK:=get_lt y.gK;have ye:=y.ent;have Q:S.enter.get 0=Φ (.lst (r.map .int)):=by rw[zaB];exact g0
 have Y:S.enter.get 3=Φ (.lst (w.map lD)):=by rw[zaB];exact g3
 have le:S.enter.len=S.len:=by simp[R.St.len]
 have l3:=get_lt g3;have fe:S.enter.frz=S.frz++S.new:=rfl;have I:S.enter.lk=[]:=rfl;have J:S.enter.frz.length<=S.len:=by rw[fe,length_append];exact le_refl _
 rw[zil];generalize hE:S.enter=E at ye Q Y le fe I J⊢;generalize hB:fB=tB;generalize hC:fC=tC;refine wS_W _ ?_;left;rw[le];let T0:=E.push (.d3 []);have v0:Mv [] E T0:=Mv.push _ _ _;have y0:=ye.mv v0 (by simp);have d0:DV S.len (λ_ _=>False) 0 T0:=⟨[],(by rw[<-le];exact zag _ _),(λx d h=>nS h),(λx t=>⟨λz'=>(by obtain⟨v,h,_⟩:=z';exact (nS h)),False.elim⟩),le_refl _,(λz l=>by cases l)⟩;have gd0:T0.get 0=Φ (.lst (r.map .int)):=zae Q;have gd3:T0.get 3=Φ (.lst (w.map lD)):=zae Y;refine wNeed_of (by lia) ?_
 left;refine zam ?_;refine W.mono (zal (λj A T=>(∃L C G M N b c,A=Ef a m S.len [L,C,G,M,N,b,c])/\Mv [S.len] T0 T/\DV S.len (λx t=>∃i:Nat,i<j/\(i:Int)∉r/\AddH (ks i) i x t) (2*j) T) (λ_ _=>False) _ 0 _ _ ⟨⟨Ψ,Ψ,Ψ,Ψ,Ψ,Ψ,Ψ,rfl⟩,Mv.refl _ _,d0.imp (λx t=>⟨False.elim,λp=>(by obtain⟨i,h,_⟩:=p;exact absurd h (Nat.not_lt_zero _))⟩) (le_refl _)⟩ ?_) ?_;rintro j z A T l ⟨⟨L,C,G,M,N,b,c,rfl⟩,v,g⟩;obtain⟨hj,rfl⟩:=zi3 l;subst hB;rw[zero_add]at g⊢;refine⟨_,rfl,(zre (y0.mv v (by simp;lia)) (k2 j) hj (v.old _ _ (by simp;lia) gd0) (by rw[v.frz];exact J) (v.lk.trans I) g (λx t q'=>by obtain⟨i,_,_,k,_,e,h3⟩:=q';rw[e];exact h3) (by lia)).mono λf X hX=>?_⟩;cases f with|rt d=>exact hX.elim| nx A=>obtain⟨⟨C,G,rfl⟩,H,O⟩:=hX;refine⟨⟨_,_,_,_,_,_,_,rfl⟩,v.trans H,O.imp (λx t=>?_) (by lia)⟩;constructor;rintro(⟨i,h1,O⟩|h);exact⟨i,by lia,O⟩;exact⟨j,by lia,h⟩;rintro⟨i,q1,q2⟩;rcases Nat.lt_succ_iff_lt_or_eq.mp q1 with q|q;exact .inl ⟨i,q,q2⟩;subst q;exact .inr q2
 rintro f T h';cases f with|rt d=>exact h'.elim|nx A=>
 obtain⟨⟨L,C,G,M,N,b,c,rfl⟩,v,g⟩:=h';have e9:=zgB v.lk;have hd1:DV S.len (λx t=>∃i:Nat,i<m/\(i:Int)∉r/\AddH (ks i) i x t) (2*m) T:=by simpa using g
 rw[e9];have gt0:=v.old _ _ (by simp;lia) gd0;have gt3:=v.old _ _ (by simp;lia) gd3;have fz3:=v.frz;have lk3:=v.lk.trans I;left;refine wOpt_of gt3 ?_;left;refine zam ?_;let T2:R.St:={T with lk:=[3]++T.lk};have f2:Fr T2 S.len:=⟨by rw[fz3];exact J,by show([3]++T.lk).contains S.len=Δ;rw[lk3];simp;lia⟩;refine W.mono (zal (λj A X=>(∃L C G M N b c,A=Ef a m S.len [L,C,G,M,N,b,c])/\Mv [S.len] T2 X/\DV S.len (λx t=>(∃i:Nat,i<m/\(i:Int)∉r/\AddH (ks i) i x t)\/∃z∈w.take j,AddL r z x t) (2*m+9*j) X) (λ_ _=>False) _ 0 _ _ ⟨⟨_,_,_,_,_,_,_,rfl⟩,Mv.refl _ _,hd1.imp (λx t=>⟨.inl,λz=>z.elim id λu=>(by obtain⟨k,h,_⟩:=u;exact absurd h (by exact not_mem_nil))⟩) (by lia)⟩ ?_) ?_;rintro j z A X l ⟨⟨L,C,G,M,N,b,c,rfl⟩,H,g⟩;have hj:=(Β.mp l).1;rw[length_map]at hj;rw[getElem?_map]at l;cases B:w[j]? with
 |none=>rw[B]at l;exact nS l
 |some x=>
  rw[B]at l;cases l;subst hC;rw[zero_add]at g⊢;refine⟨_,rfl,(zsm (by have:=p7 x (mem_of_getElem? B);lia) (H.old _ _ (by simp;lia) gt0) (by lia) (f2.mv H) g (by lia)).mono λf X hX=>?_⟩;cases f with
  |rt d=>exact hX.elim| nx A=>
   obtain⟨⟨b,c,rfl⟩,v3,O⟩:=hX;refine⟨⟨_,_,_,_,_,_,_,rfl⟩,H.trans v3,O.imp (λy t=>?_) (by lia)⟩;rw[ziM B];constructor;rintro((z|⟨k',h1,O⟩)|z);exact .inl z;exact .inr ⟨k',mem_append_left _ h1,O⟩;exact .inr ⟨x,by simp,z⟩;rintro(z|⟨k',q1,q2⟩);exact .inl (.inl z);rcases mem_append.mp q1 with e|e;exact .inl (.inr ⟨k',e,q2⟩);have:k'=x:=by simpa using e
   subst this;exact .inr q2
 rintro f X h';cases f with|rt d=>exact h'.elim|nx A=>
 obtain⟨⟨L,C,G,M,N,b,c,rfl⟩,H,g⟩:=h';rw[zero_add,length_map,List.take_length]at g;left;have vf:=(H.frz.trans fz3).trans fe;have g:DV S.len (FstP m r w ks) 600 X:=g.imp (λx t=>Iff.rfl) (by lia);obtain⟨dk,gd,q⟩:=g;refine zmS (le_refl _) gd ⟨rfl,⟨rfl,rfl,by simp[R.St.len],λx o hx e=>?_⟩,dk,?_,q⟩;have hx':=get_lt e;rw[zkk vf];have e2:E.get x=Φ o:=by rw[<-zaB]at e;rw[<-hE];exact e
 exact H.old _ _ (by simp;lia) (v.old _ _ (by simp;lia) (zae e2));rw[zkk vf];exact gd
theorem zkn(ns:List Int)(x:Int):x∈R.dedup ns↔x∈ns:=by
 unfold R.dedup;suffices ∀(l a:List Int),x∈(l.foldl (λa x=>if a.contains x then a else a++[x]) a)↔x∈a\/x∈l by rw[this];simp
 intro l;induction l with
 |nil=>intro a;simp| cons y l b=>
  intro a;rw[List.foldl_cons,b];by_cases c:a.contains y=Γ;rw[if_pos c];have:y∈a:=by simpa using c
  constructor;rintro(z|z);exact .inl z;exact .inr (Ν _ z);rintro(z|z);exact .inl z;rcases mem_cons.mp z with e|e;exact .inl (e▸this);exact .inr e;rw[if_neg c];constructor;rintro(z|z);rcases mem_append.mp z with e|e;exact .inl e;exact .inr (by rw[mem_singleton]at e;rw[e];exact Ρ);exact .inr (Ν _ z);rintro(z|z);exact .inl (mem_append_left _ z);rcases mem_cons.mp z with e|e;exact .inl (by rw[e];simp);exact .inr e
theorem zeT(a:List Int)(x:Int):x∈liZ a↔x∈a:=by unfold liZ;rw[(zbo _).mem_iff,zkn]
theorem zmD{m:Nat}{f:List Int}{j:List Ly}{ks:Nat->List Kp}{t:Int}(l:1<=t)(x:K3):FstP m f j ks x t↔TrS m (liZ f) ks t.toNat x\/LiS (liZ f) j t.toNat x:=by constructor;rintro(⟨i,a,e,k,b,c,d⟩|⟨y,a,v,b,⟨i,q,c,d,g,h⟩,e⟩);exact .inl ⟨i,a,λz=>e ((zeT _ _).mp z),k,b,by lia,c⟩;exact .inr ⟨y,a,by lia,v,b,i,q,c,d,(zeT _ _).mpr g,h⟩;rintro(⟨i,a,e,k,b,c,d⟩|⟨y,a,e,v,b,i,q,c,d,g,h⟩);exact .inl ⟨i,a,λz=>e ((zeT _ _).mpr z),k,b,d,by lia⟩;exact .inr ⟨y,a,v,b,⟨i,q,c,d,(zeT _ _).mp g,h⟩,by lia⟩
noncomputable def vZ(a:List (K3×D))(k:K3):Int:=match zbd a k with|some (.int v)=>v|_=>99
noncomputable def keyZ(x:Lt)(i:Nat):K3:=(x.p.getD i 0,x.p.take i,x.w)
noncomputable def okB(a:List (K3×D))(x:Lt):Bool:=((List.range x.p.length).map λi=>decide (vZ a (keyZ x i)<=x.t)).all id
theorem O36{m:Nat}{c:List Int}{f:List Ly}{ks:Nat->List Kp}{b:List (K3×D)}{x:Lt}(n:∀x d,zbd b x=Φ d->∃v:Int,d=.int v)(o:∀x (t:Int),(∃v,zbd b x=Φ (.int v)/\v<=t)↔FstP m c f ks x t)(j:1<=x.t)(r:x.t<=8)
  (g:x.g=Γ↔∀(i:Nat)(h:Int),x.p[i]?=Φ h->TrS m (liZ c) ks x.t.toNat (h,x.p.take i,x.w)\/LiS (liZ c) f x.t.toNat (h,x.p.take i,x.w)):okB b x=x.g:=by
 have l:∀k,vZ b k<=x.t↔FstP m c f ks k x.t:=λk=>by rw[<-o];unfold vZ;cases e:zbd b k with|none=>exact⟨λz=>by dsimp only at z;omega,λy=>(by obtain⟨v,z,_⟩:=y;exact nS z)⟩| some d=>obtain⟨v,rfl⟩:=n _ _ e;exact⟨λz=>⟨v,rfl,z⟩,λ⟨s,z,p⟩=>by cases z;exact p⟩
 rw[Bool.eq_iff_iff,g];unfold okB;rw[List.all_map,all_eq_true];constructor;intro q i h e;have a:=(Β.mp e).1;have:=(l _).mp (of_decide_eq_true (q i (mem_range.mpr a)));rw[zmD j]at this;unfold keyZ at this;rw[ϊ,e]at this;exact this;intro q i a;have a:=mem_range.mp a;refine decide_eq_true ?_;rw[l,zmD j];unfold keyZ;rw[ϊ,Ε a];exact q i _ (Ε a)
noncomputable def okD(a:List (K3×D))(x:Lt)(d:D):D:=match d with|.int k=>.bl (decide (vZ a (keyZ x k.toNat)<=x.t))|d=>d
theorem zrb{a:List (K3×D)}{x:Lt}{g:Bool}(ok:okB a x=g):allD (((List.range x.p.length).map λ(k:Nat)=>D.int (k:Int)).map (okD a x))=Φ g:=by rw[map_map,show(okD a x∘λ(k:Nat)=>D.int (k:Int))=(λb=>D.bl b)∘λi=>decide (vZ a (keyZ x i)<=x.t) from rfl,<-map_map,<-ok];exact zkI _
@[irreducible]noncomputable def lB:CS:=match Nat.repeat CS.rest 4 c_law.body with|.forS _ _ b _=>b|_=>.nil
noncomputable abbrev El(ns:List Int)(m:Nat)(b s w l:Int)(r:Option Int)(a c:Nat)(us:List (Option D)):Ev:=[Φ (.fix (ns.map .int)),Φ (.int (m:Nat)),Φ (.int b),Φ (.ref 0),Φ (.int s),Φ (.int w),Φ (.ref 3),Φ (oD r),Φ (.int l),Φ (.ref a),Φ (.ref c)]++us
theorem zsf(S:R.St)(b:Bool):cmpO S .NotEq (.bl b) (.bl b)=Φ Δ:=by have h:pd S 60 (.bl b)=Φ (.bool b):=rfl;show(eqD S (.bl b) (.bl b)).map (!·)=_;rw[zqW h h];rfl
theorem zr1{cf:CF}{ns:List Int}{m:Nat}{b s w l:Int}{r:Option Int}{a j:Nat}{S:R.St}{g:List (K3×D)}{x:Lt}{h:Option D}(n:S.get j=Φ (.d3 g))(p:∀x d,zbd g x=Φ d->∃v:Int,d=.int v)(ok:okB g x=x.g)(y:x.p.length<=9)(tl:x.t<=l) :
  wS cf lB (El ns m b s w l r a j [Φ (.int x.t),Φ (pD x.p),Φ (.int x.to),Φ (.int x.w),Φ (.bl x.g),h]) S λf T=>match f with|.nx q=>(∃h,q=El ns m b s w l r a j [Φ (.int x.t),Φ (pD x.p),Φ (.int x.to),Φ (.int x.w),Φ (.bl x.g),h])/\T=S|.rt _=>False:=by
 unfold lB;left;refine wNeed_of (by rw[length_map];lia) ?_
 left;refine zam ?_;rw[show((List.range ((x.p.map D.int).length:Int).toNat).map λ(k:Nat)=>D.int (k:Int))=(List.range x.p.length).map λ(k:Nat)=>D.int (k:Int) by rw[length_map,ϡ]];refine W.of (zcJ (okD g x) _ Ψ (λz o=>rfl) (λz o=>?_)) ?_;obtain⟨k,i,rfl⟩:=mem_map.mp o;have i:=mem_range.mp i;refine W.eq (wE_W _ ?_);left;refine wOpt_of (zks n) ?_;left;refine wOpt_of (zcp i) ?_;left;right;left;rw[zdO,zfU];left;refine wOpt_of (zhw n (x.p[k],x.p.take k,x.w)) ?_;left;have t:keyZ x (k:Int).toNat=(x.p[k],x.p.take k,x.w):=by unfold keyZ;rw[ϡ,ϊ,Ε i];rfl
 have fin:∀v:Int,vZ g (x.p[k],x.p.take k,x.w)=v->D.bl (decide (v<=x.t))=okD g x (.int (k:Int)):=λv u=>by show _=D.bl (decide (vZ g (keyZ x (k:Int).toNat)<=x.t));rw[t,u]
 cases e:zbd g (x.p[k],x.p.take k,x.w) with|none=>exact⟨fin 99 (by unfold vZ;rw[e]),rfl⟩| some d=>obtain⟨v,rfl⟩:=p _ _ e;exact⟨fin v (by unfold vZ;rw[e]),rfl⟩
 refine wNeed_of (by simp;lia) ?_
 left;refine wOpt_of (zrb ok) ?_;left;left;refine wOpt_of ((show tyOf S (.bl x.g)=Φ "bool" from rfl)) ?_;left;refine wOpt_of (zsf S x.g) ?_;left;refine zcg (λc=>?_) (λc=>?_);exact absurd tl (by lia);left;exact⟨⟨_,rfl⟩,rfl⟩
theorem zlG:c_law.body=.asgT [1,2,3,4,5,6] (.call 19 0 #[J0]) (.asgT [7,8] (.call 20 0 #[J0,J2]) (.asg 9 (.mk 1 27 "Signed" 0 #[.mk 2 34 "Setting" 0 #[J1,J2,.mkL (.val J3),.mkL (.val J6)],J4,J5,J7]) (.asg 10 (.call 21 0 #[J9,J1,J3,J6]) (.forS [11,12,13,14,15] (.val (.meth "letters" [(1,30)] J9 .nil)) lB (.ret (.con (D.bl Γ)) .nil))))):=by unfold lB;rfl
theorem law_true(ns:List Int)(hn:ns.length<=63):W (callF prog 7 22 [.fix (ns.map .int)] ⟨[],[],[]⟩) λd _=>d=.bl Γ:=by
 have key:W (exS (callF prog 6) c_law.body (zaP c_law [.fix (ns.map .int)]) ⟨[],[],[]⟩) λf _=>f=.rt (.bl Γ):=by
  obtain⟨m,b,s,w,c,ws,cs,e,k,ed⟩:=zi0 (n:=2) (ns:=ns);obtain⟨r,l,o,hr,er⟩:=zk6 (n:=4) (ns:=ns) k.b0 k.b5;have m1:=k.m1;have m7:=k.m7;have hl:=k.hl;have ll:=k.ll;rw[zlG];generalize hlp:(CS.forS [11,12,13,14,15] (.val (.meth "letters" [(1,30)] J9 .nil)) lB (.ret (.con (D.bl Γ)) .nil))=loop;refine wS_W _ ?_;left;refine wOut_of ed ?_;left;refine wOpt_of (show asgG [1,2,3,4,5,6] (.tup [.int (m:Nat),.int b,.ref 0,.int s,.int w,.ref 3]) (zaP c_law [.fix (ns.map .int)])=Φ [Φ (.fix (ns.map .int)),Φ (.int (m:Nat)),Φ (.int b),Φ (.ref 0),Φ (.int s),Φ (.int w),Φ (.ref 3),Ψ,Ψ,Ψ,Ψ,Ψ,Ψ,Ψ,Ψ,Ψ,Ψ] from rfl) ?_;left;refine wOut_of er ?_;left;refine wOpt_of (show asgG [7,8] (.tup [oD r,.int l]) [Φ (.fix (ns.map .int)),Φ (.int (m:Nat)),Φ (.int b),Φ (.ref 0),Φ (.int s),Φ (.int w),Φ (.ref 3),Ψ,Ψ,Ψ,Ψ,Ψ,Ψ,Ψ,Ψ,Ψ,Ψ]=Φ [Φ (.fix (ns.map .int)),Φ (.int (m:Nat)),Φ (.int b),Φ (.ref 0),Φ (.int s),Φ (.int w),Φ (.ref 3),Φ (oD r),Φ (.int l),Ψ,Ψ,Ψ,Ψ,Ψ,Ψ,Ψ,Ψ] from rfl) ?_;left;refine wOpt_of ((rfl:(⟨[],[.lst (c.map .int),.lst (ws.map .int),.lst (cs.map .int),.lst (e.map lD)],[]⟩:R.St).get 0=Φ (.lst (c.map .int)))) ?_;left;refine wNeed_of (by rw[length_map];lia) ?_
  left;refine wOpt_of ((rfl:(⟨[],[.lst (c.map .int),.lst (ws.map .int),.lst (cs.map .int),.lst (e.map lD),.lst (c.map .int)],[]⟩:R.St).get 3=Φ (.lst (e.map lD)))) ?_;left;refine wNeed_of (by rw[length_map];lia) ?_
  left;let g:R.St:=⟨[],[.lst (c.map .int),.lst (ws.map .int),.lst (cs.map .int),.lst (e.map lD),.lst (c.map .int),.lst (e.map lD),.ins 2 []],[]⟩;have g4:g.get 4=Φ (.lst (c.map .int)):=rfl;have g5:g.get 5=Φ (.lst (e.map lD)):=rfl;have g6:g.get 6=Φ (.ins 2 []):=rfl;have q:=zn0 (n:=0) (b:=b) (x:=.ref 4) (y:=.ref 5) g6 ⟨zero_le _,rfl⟩ (by lia) (by lia) k.b0 k.b5 (λT v=>znp (n:=1) (v.old _ _ (by simp) g4) k.hi (by lia)) (λT v=>zpz (n:=0) (v.old _ _ (by simp) g5) k.lk (by lia));have fz0:g.frz=[]:=rfl;have lk0:g.lk=[]:=rfl;have le0:g.len=7:=rfl;have ga0:g.get 0=Φ (.lst (c.map .int)):=rfl;have ga3:g.get 3=Φ (.lst (e.map lD)):=rfl;refine zb6 (q.mono λd U p=>?_);obtain⟨q1,M,q3,q4⟩:=p;subst q1;have t:=M.frz.trans fz0;have A:=M.lk.trans lk0;refine wNeed_of rfl ?_;left;have gb0:=M.old _ _ (by simp) ga0;have gb3:=M.old _ _ (by simp) ga3;have q:=zqs (n:=2) (as:=6) (a:=U.len) (r:=r) (Ig m (liZ c) e s w) (ig_0 λy hy=>(k.lk y hy).t1) (λj kvs L kvs' L' _ N h2=>zoj N h2) m1 m7 k.s0 k.sm k.wd o.1 o.2 hr k.lk ll (zag _ _) ⟨by show U.frz.length<=_;rw[t];exact zero_le _,by show U.lk.contains _=Δ;rw[A];rfl⟩ (zae q4) (by lia) (by show ∀x∈U.lk,_;rw[A];simp) (by show U.frz.length<=_;rw[t];exact zero_le _);refine zb6 (q.mono λd V p=>?_);obtain⟨q5,kt,K0,kvs,L,y,L2,lo,kl,ik⟩:=p;subst q5;refine wNeed_of rfl ?_;left;subst hlp;have gc0:=kt.old 0 _ (by lia) (zae gb0);have gc3:=kt.old 3 _ (by lia) (zae gb3);generalize hB:lB=tB;refine zb6 ((znr (n:=0) y.ky (λi=>ze2 s w i L) m7 gc0 gc3 (λx O=>(k.lk x O).p7) ll).mono λd X p=>?_);obtain⟨q6,v6,dv⟩:=p;subst q6;obtain⟨dk,gd,N,h2,h3,h4⟩:=dv;have y1:=y.mvA v6 (by simp);left;refine wOpt_of (zaJ y1.ga) ?_;left;refine wOpt_of rfl ?_;left;refine wNeed_of rfl ?_;left;refine wOut_of (zjz (n:=5) y1 L2) ?_;left;refine wOpt_of (zag _ _) ?_;left;refine zam ?_;let X1:=X.push (.lst (L.map seD));let X2:R.St:={X1 with lk:=[X.len]++X1.lk};have gd2:X2.get V.len=Φ (.d3 dk):=zae gd;refine W.mono (zal (λj Q T=>(∃B C E G H I,Q=El ns m b s w l r U.len V.len [B,C,E,G,H,I])/\T=X2) (λ_ _=>False) _ 0 _ _ ⟨⟨Ψ,Ψ,Ψ,Ψ,Ψ,Ψ,rfl⟩,rfl⟩ ?_) ?_;rintro j z Q T J ⟨⟨B,C,E,G,H,I,rfl⟩,rfl⟩;rw[getElem?_map]at J;cases h:L[j]? with
  |none=>rw[h]at J;exact nS J
  |some x=>rw[h]at J;cases J;subst hB;have O:=mem_of_getElem? h;obtain⟨g1,g2,g3⟩:=ik.g x O;refine⟨_,rfl,(wS_W _ (zr1 (x:=x) gd2 N (O36 N h2 g1 (by lia) g3) (lo x O).p9 (by lia))).mono λf Y hY=>?_⟩;cases f with|rt d=>exact hY.elim| nx Q=>obtain⟨⟨u,rfl⟩,rfl⟩:=hY;exact⟨⟨_,_,_,_,_,_,rfl⟩,rfl⟩
  rintro f T h';cases f with|rt d=>exact h'.elim| nx Q=>left
 simp only[callF,show prog[22]?=Φ c_law from rfl,show([D.fix (ns.map .int)]:List D).length=c_law.np from rfl,show c_law.prim=Ψ from rfl,if_true,zab];refine key.mono λf T hf=>?_;subst hf;rfl
end
end Kz
open PySem PySem.W PyProof.Rows
set_option maxRecDepth 100000 in
set_option maxHeartbeats 0 in
theorem PySem.Challenge.cw_traitorround_k45_what_is_good_holds : PySem.Challenge.rw_traitorround_k45_what_is_good.Holds := by
 w_on;o_law;k_head;(case hw=>w_witness2)
 k_fill
 refine L2.walk_of (l:=PySem.Challenge.rw_traitorround_k45_what_is_good) (n:=63) (k:=14) (x:="_law_script") (CX:=λ_=>L2.CX0) (sp:=λw=>R.spF _ (R.callF Kz.prog 7) 22) rfl (by decide) rfl ⟨rfl,by decide,by decide⟩ (λw h Y=>PySem.W.kIn_of Y) ?F (λ_ _ a ns hl hO hS=>R.law_sp rfl hO hS (Kz.law_true ns hl)) λ_ _ _ _ _ z=>z
 case F=>
  intro w mg fa h KX G hmg;apply R.all_of0 (n:=6) KX G hmg Kz.O35 (le_refl _)
  . (repeat' (first|exact trivial|apply R.AllAtG.cons|apply R.AllInG.cons))
    . apply R.clOk (c:=0) KX G rfl<;>first|k_is|((repeat' (first|exact trivial|apply R.AllAtG.cons|apply R.AllInG.cons))<;>k_is)
    . apply R.clOk (c:=1) KX G rfl<;>first|k_is|((repeat' (first|exact trivial|apply R.AllAtG.cons|apply R.AllInG.cons))<;>k_is)
    . apply R.clOk (c:=2) KX G rfl<;>first|k_is|((repeat' (first|exact trivial|apply R.AllAtG.cons|apply R.AllInG.cons))<;>k_is)
  . (repeat' (first|exact trivial|apply R.AllAtG.cons|apply R.AllInG.cons))<;>k_is
  . (repeat' (first|exact trivial|apply R.AllAtG.cons|apply R.AllInG.cons))<;>(apply R.coOk;k_is)
  . intro base
    (repeat' (first|exact trivial|apply R.AllAtG.cons|apply R.AllInG.cons))
    . apply R.dOk KX G Kz.O20<;>k_is
    . apply R.dOk KX G Kz.O28<;>k_is
    . apply R.dOk KX G Kz.O29<;>k_is
    . apply R.dOk KX G Kz.O25<;>k_is
    . apply R.dOk KX G Kz.O32<;>k_is
    . apply R.dOk KX G Kz.O27<;>k_is
    . apply R.dOk KX G Kz.O31<;>k_is
    . apply R.dOk KX G Kz.O7<;>k_is
    . apply R.dOk KX G Kz.O14<;>k_is
    . apply R.dOk KX G Kz.O34<;>k_is
    . apply R.dOk KX G Kz.O33<;>k_is
    . apply R.dOk KX G Kz.O19<;>k_is
    . apply R.dOk KX G Kz.O11<;>k_is
    . apply R.dOk KX G Kz.O26<;>k_is
    . apply R.dOk KX G Kz.O18<;>k_is
    . apply R.dOk KX G Kz.O21<;>k_is
    . apply R.dOk KX G Kz.O30<;>k_is
    . apply R.dOk KX G Kz.O24<;>k_is
    . apply R.dOk KX G Kz.O22<;>k_is
    . apply R.dOk KX G Kz.O10<;>k_is
    . apply R.dOk KX G Kz.O13<;>k_is
    . apply R.dOk KX G Kz.O17<;>k_is
    . apply R.dOk KX G Kz.O35<;>k_is
  . intro hc
    (repeat' (first|exact trivial|apply R.AllAtG.cons|apply R.AllInG.cons))
    . apply R.mOk (c:=0) hc Kz.O6 rfl rfl<;>k_is
    . apply R.mOk (c:=0) hc Kz.O23 rfl rfl<;>k_is
    . apply R.mOk (c:=1) hc Kz.O9 rfl rfl<;>k_is
    . apply R.mOk (c:=1) hc Kz.O8 rfl rfl<;>k_is
    . apply R.mOk (c:=1) hc Kz.O3 rfl rfl<;>k_is
    . apply R.mOk (c:=1) hc Kz.O2 rfl rfl<;>k_is
    . apply R.mOk (c:=0) hc Kz.O15 rfl rfl<;>k_is
    . apply R.mOk (c:=2) hc Kz.O4 rfl rfl<;>k_is
    . apply R.mOk (c:=1) hc Kz.O1 rfl rfl<;>k_is
    . apply R.mOk (c:=1) hc Kz.O0 rfl rfl<;>k_is
  . (repeat' (first|exact trivial|apply R.AllAtG.cons|apply R.AllInG.cons))
    . apply R.iOkD (c:=1) (n:=5) (items:=#[Λ.none]) Kz.O12 rfl (λ_ _ _ _ _ _ _=>usS λ_=>usS λ_=>usS λ_=>usS λ_=>usS λ_=>usZ ⟨_,rfl,rfl⟩) rfl<;>k_is
    . apply R.iOkD (c:=2) (n:=5) (items:=#[Λ.none,Λ.none]) Kz.O5 rfl (λ_ _ _ _ _ _ _=>usS λ_=>usS λ_=>usS λ_=>usS λ_=>usS λ_=>usZ ⟨_,rfl,rfl⟩) rfl<;>k_is
    . apply R.iOk (c:=0) Kz.O16 rfl<;>k_is
  . (repeat' (first|exact trivial|apply R.AllAtG.cons|apply R.AllInG.cons))
  . (repeat' (first|exact trivial|apply R.AllAtG.cons|apply R.AllInG.cons))
  all_goals k_is
end
