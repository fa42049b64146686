import PyProof.Rows.All
import Wide.All
import OpenK.AllK
import Wide.FinOn
import PyProof.EqAt
import PyProof.EqKinds
import PyProof.TupleCall
import Open.SpecLaws
import KE.OsHead
import KE.OsGo
import PyProof.MaxThree
import PyProof.ListRange
import PySem.Challenge.RW_cruiseship_s01_answers
set_option Elab.async false
set_option linter.all false
set_option maxRecDepth 100000
set_option maxHeartbeats 8000000
set_option genInjectivity false in
set_option genSizeOf false in
structure PySem.W.Fast:Prop where
 (tw6004855463136520513 tw781749913374418984 tw8826345074841738707 tw2053473176451174143 tw18284765548700912884 tw4703210482509201406 tw10289725204474845242 tw12673581718372844265 tw17366830247657189533 tw10892197471571129418 tw10656447476501973787 tw11457576264705371755 tw14589315969274746735 tw2645659216973082391 tw5965170794153219999 tw4176981459878303087 tw3969111695926608262 tw617610789049979681 tw18152260491815015585 tw15362252253689124193 tw2480356324152578834 tw14472338670679244640 tw1310613189164016608 tw6094335822045251271 tw6557344265145450916 tw7195660532078404264 tw13256550526298404894 tw4652252566404929641 tw6763601612846685718 tw6408791192002015716 tw9280943718658464351 tw14067900358506194474 tw7983042691985450606 tw9172513547513891083 tw3258019950284242434 tw4258405787077112613 tw8966996218386990192 tw15922056827097928340 tw827617337897675335 tw13402628009182718959 tw10219710872210794503 tw11219568844953541916 tw15212906680574722731 tw16585673064096231129 tw1234922003316555057 tw9653387379103297753 tw11630186288574639321 tw183657037141518596 tw15434636616907867256 tw9822906651449424861 tw15519689183993059709 tw3621870408715770490 tw11647367878611417140 tw3372558425727455917 tw2312510955236765745 tw12897493356792298329 tw3951595263829393414 tw2604947943001687514 tw2675720097697375918 tw4345963914801290982 tw9269452947711777266 tw18141091695941012837 tw17950637460299362907 tw9089440343110493953 tw906432252296072610 tw5555048696366100786 tw15917791526927103395 tw12893879426062970129 tw14161807333266359662 tw1381988118023107487 tw782961629169937554 tw9189136956334789870 tw13366691867826001146 tw6408247686845590669 tw7295629543144464289 tw14322007389083888393 tw14522734043609370335 tw1337240266952609455 tw2967137884084711564 tw4832162885955727742 tw426646592582700089 tw5896832088201013735 tw16166340973313273967 tw9203676747047939180 tw5258698458688798157 tw1712344501817797867 tw5110971831756259028 tw693703773621706475 tw2918034223289762405 tw4687275412112617982 tw16147930649809187438 tw8181698668732571498 tw16472303042198920205 tw17230707724573915646 tw6245530397586103628 tw7855800305569819937 tw3372301709769753007 tw14224295583443478904 tw6613436679423663846 tw6221909515506201084 tw1237422599337380607 tw8803516695166171433 tw3684925291587741154 tw2295722294674531578 tw14317215967300912107 tw11223719777506823782 tw4514777963645866474 tw5492858344754897294 tw11181018935137388315 tw11624254515757193301 tw3686002947528768699 tw6030295294159378491 tw9170943394228387791 tw2070571611778225463 tw9041712384751782617 tw4118834487008464601 tw6034649927718569681 tw12805581805961630135 tw7526528175319361726 tw1959607807709294995 tw5258025341532408853 tw5344650187506415948 tw5685103300018444230 tw6282533085745045993 tw6826247610300658043 tw18243890705973626678 tw18233568546424454090 tw10666636917226277470 tw15598440910609143607 tw12157809596012726179 tw4702462062266727261 tw13164645584229997005 tw4024319061372303172 tw13469185108693080607 tw10125801053666313114 tw17036207243591036851 tw12528472603980431134 tw1544720615965739022 tw7293547068317381851 tw2218640451555323620 tw15048327653715365123 tw14374184940393013449 tw15963218624492848769 tw18049571647794015762 tw14443493582131085429 tw13556276946921367798 tw10708981692955383634 tw17377079228921028261 tw13805923740001225403 tw5491691741111530064 tw14834919478798605960 tw14561300307036507986 tw1585423405198405689 tw4175460310955144554 tw11818467164646243975 tw1824364759818297707 tw14957410416144434500 tw4251321767639986574 tw4193194813495101759 tw4680658640481858446 tw10344958100346170474 tw15314637265030237689 tw9648560339568331687 tw17709309503830313971 tw5517841562578684794 tw10479661892840826753 tw130726028408331514 tw871361947334648315 tw8782849596462448281 tw3988489041740115431 tw4642832781624181781 tw4695981575339158342 tw5873611557366895221 tw15673383445897734545 tw12724251755303857950 tw3184346090199019982 tw5424380958938996746 tw8854298579040847830 tw3299128648060452002 tw7902626684847140888 tw64998439963111373 tw2183672974974210160 tw5375075747468544232 tw2823568936232230289 tw13981723864384763226 tw17760586944046361011 tw17168189249116942069 tw16637297384321845 tw18121336218166971504 tw8364555761049877220 tw6709580311353286183 tw7624830582956778148 tw16199039140595821730 tw13220685590411013211 tw8473086383942180457 tw1839272079587754904 tw15170228148370991999 tw5885963612277804180 tw5200293747883926459 tw2889438303998743553 tw9481708039062503975 tw4481102632777782275 tw10733474570297527177 tw5334645803498008924 tw13518136198421866143 tw3108651779094278169 tw12268878859555073712 tw6595435978929978679 tw4447069031775562857 tw682731366802550344 tw17806982123384629135 tw2360074187980709049 tw14466037854699607684 tw7585947121836893199 tw12660164473775219294 tw3711634461110315944 tw12435828852404491804 tw12171998131932602380 tw13362965751380850796 tw16834298143330546177 tw11744544115996059975 tw5715310009042323666 tw15410159758904358572 tw1477359791360528743 tw16657611943358727184 tw4280128205378120588 tw628734105641480907 tw5528441120285198326 tw5340680420997131692 tw13569496076885208437 tw17529318694360838760 tw9427006435412943244 tw7475671091279669137 tw9513506641537254182 tw495753330327992473 tw12153097284419911472 tw1054646703052480021 tw9370926159271470828 tw1272906365034456122 tw14765468897366880897 tw7181160052493255046 tw15640662293602474302 tw17689391388116356284 tw1932678522538527130 tw17594978609021639390 tw3779272627311875168 tw14634407294234398001 tw9679362083974759650 tw11600350584273852585 tw9718112341974376845 tw3786283035496679019 tw13855514843027064758 tw13100688327563640258 tw2654672593956838826 tw15873812470692477266 tw10746127598827823464 tw7634886452141022597 tw2413750598494763198 tw2431067701131477151 tw5303647429651653336 tw9512363039361463856 tw11653522047450014372 tw2509380778506694413 tw14344384736069758360 tw13645964335258125095 tw5869018519456589646 tw17923174190707829129 tw476865263205878585 tw589729289439403212 tw7535464627143677313 tw1409387533729047542 tw729219958546085388 tw17368742652484627381 tw11125292959978853647 tw8834378144010248116 tw3498910602885929480 tw10564476059706213823 tw3991877229408405099 tw17101095774530694864 tw4662591033989267328 tw9826212540495908190 tw8698862343619768792 tw17072334020332639439 tw12647971176774298109 tw6071578640740859404 tw1026562338344409309 tw14415032607084918835 tw13252153767486395437 tw6751651793061302902 tw9586646399162878122 tw12863293395436893601 tw4802499954556893680 tw13495259643355082971 tw16436751825888223023 tw1602545857916673808 tw12930602694164026289 tw3393882710107215976 tw9918183932869533295 tw14369063338828037628 tw4041297898927245571 tw16312127579077569429 tw385231371424076994 tw4967924398080066646 tw4336877507317096264 tw1416316443287568428 tw14006171591442789205 tw268768740986869041 tw14763820819589564132 tw4099621785454371034 tw12214486343919012102 tw4874019697585539541 tw9888270756340215475 tw11046969283967912395 tw1061243350577837671 tw16800056543921685870 tw8388926990372243627 tw9134827576570010634 tw9460350533565028885 tw4307394984826862715 tw70691249195675162 tw15776813376264582908 tw10129457046574026707 tw16076392448251495150 tw9208008561326108448 tw18121917826850837309 tw6324477375788414961 tw14531213560724475694 tw14598790046435915402 tw4953020721620292774 tw1861434899901255845 tw7030515608758783277 tw4774901320779388562 tw6776456554285157786 tw2827827203747971882 tw5375740797747630779 tw16504922607932862860 tw6848190400596186020 tw4643319085599692676 tw2802715874150907252 tw6667067548917809167 tw9683087914064780231 tw3627520079519543906 tw16936324956306420517 tw7410647876709633476 tw9818023003146046252 tw11943864564989815467 tw18253199264956185514 tw4649298058113527647 tw12995854457160195801 tw10422316850713441519 tw2329670194431917045 tw12764977637602048393 tw9095170118793215381 tw15679664137174388061 tw13020389481854549500 tw12389265197358631681 tw5994733537785253508 tw3051433027728014291 tw5300051765712531659 tw18400108007348195910 tw14803536263066424974 tw4008401158282048699 tw1656334240867774954 tw7246965887736646648 tw8226990522232415802 tw14167818973936150056 tw15847305721903466770 tw11541250674366969547 tw7789752394731871880 tw10680982000909061934:True)
namespace CSP
open PySem PySem.W PyProof.Rows
theorem yW{a b:Bool}(h:a=true)(k:b=true):(a&&b)=true:=by rw[h,k];rfl
set_option maxHeartbeats 0 in
theorem Aq:PySem.Challenge.rw_cruiseship_s01_answers.wellSaid=true:=by
 unfold OpenSpec.wellSaid looksOpen;refine yW (yW (yW (yW (yW (yW (yW (yW (yW (yW ?_ ?_) ?_) ?_) ?_) ?_) ?_) ?_) ?_) ?_) ?_ <;> decide+kernel
def dm:Program:=view PySem.Challenge.pw_cruiseship_s01_answers [188]
def Hl:List Str:=PySem.Challenge.pw_cruiseship_s01_answers.boundNames
end CSP
namespace CS
open Km442
def au(gm bm g b m:Nat):Prop:=g+greyOf m≤gm∧b+(m - greyOf m)≤bm
theorem Bg{gm bm g b m:Nat}(hg:g≤gm)(hb:b≤bm):au gm bm g b m↔m≤((gm - g)*10+9) / 9∧m≤(bm - b)*10:=by
 unfold au greyOf;omega
def cap(gm bm g b:Nat):Nat:=min (((gm - g)*10+9) / 9) ((bm - b)*10)
theorem V2{gm bm g b m:Nat}(hg:g≤gm)(hb:b≤bm):au gm bm g b m↔m≤cap gm bm g b:=by
 rw[Bg hg hb];unfold cap;omega
def uu(p:Nat→Prop)[DecidablePred p](r:Nat×Nat):Nat×Nat:=if r.2≤r.1 then r else if p ((r.1+r.2+1) / 2) then((r.1+r.2+1) / 2,r.2) else(r.1,(r.1+r.2+1) / 2 - 1)
theorem Hd(p:Nat→Prop)[DecidablePred p](c top:Nat)(hp:∀m,p m↔m≤c):∀(k lo hi:Nat),lo≤c→lo≤hi→hi≤top→min c top≤hi→hi - lo < 2 ^ k→
  (List.range k).foldl (fun(r:Nat×Nat) _=>uu p r) (lo,hi)=(min c top,min c top):=by
 intro k
 suffices h:∀(l:List Nat) (lo hi:Nat),lo≤c→lo≤hi→hi≤top→min c top≤hi→hi - lo < 2 ^ l.length→l.foldl (fun(r:Nat×Nat) _=>uu p r) (lo,hi)=(min c top,min c top) by
  intro lo hi h1 h2 h3 h4 h5;exact h _ lo hi h1 h2 h3 h4 (by rw[List.length_range];exact h5)
 intro l
 induction l with
 |nil=>
  intro lo hi h1 h2 h3 h4 h5;have :hi - lo < 1:=h5;have e1:lo=min c top:=by omega
  have e2:hi=min c top:=by omega
  simp only[List.foldl_nil];rw[e2,←e1]
 |cons x l ih=>
  intro lo hi h1 h2 h3 h4 h5;rw[List.length_cons,Nat.pow_succ] at h5;rw[List.foldl_cons];unfold uu
  by_cases hle:hi≤lo
  ·rw[if_pos hle];refine ih lo hi h1 h2 h3 h4 ?_;have:=Nat.two_pow_pos l.length;omega
  ·rw[if_neg hle]
   by_cases hm:p ((lo+hi+1) / 2)
   ·rw[if_pos hm];have:=(hp _).1 hm;exact ih _ _ (by omega) (by omega) h3 h4 (by simp only[];omega)
   ·rw[if_neg hm];have :c < (lo+hi+1) / 2:=Nat.lt_of_not_le fun q=>hm ((hp _).2 q);exact ih _ _ h1 (by simp only[];omega) (by simp only[];omega) (by simp only[];omega) (by simp only[];omega)
theorem vz(s:Ship){f g b:Nat}(hg:g≤s.greyMost)(hb:b≤s.blackMost)(hw:s.wants < 2 ^ 64):
  s.usesNow f g b=min (min s.wants f) (cap s.greyMost s.blackMost g b):=by
 have h:=Hd (fun m=>g+greyOf m≤s.greyMost∧b+(m - greyOf m)≤s.blackMost) (cap s.greyMost s.blackMost g b) (min s.wants f) (fun m=>V2 hg hb) 64 0 (min s.wants f) (Nat.zero_le _) (Nat.zero_le _) (Nat.le_refl _) (by omega) (by omega);unfold Ship.usesNow;refine(congrArg Prod.fst h).trans ?_;simp only[];omega
end CS
namespace CS
structure Leg where
 hours:Int
 miles:Int
 knots:Int
deriving DecidableEq,Inhabited
structure Way where
 last:Int
 hour:Int
 fC:Int
 legs:List Leg
deriving Inhabited
structure Cabin where
 deck:Int
 place:Int
 rank:Int
 berths:Int
 flat:Int
deriving DecidableEq,Inhabited
structure Party where
 first:Int
 many:Int
 cabin:Int
deriving DecidableEq,Inhabited
structure Person where
 party:Int
 ay:Bool
deriving DecidableEq,Inhabited
structure cZ where
 most:Int
 cabins:List Cabin
 parties:List Party
 persons:List Person
 aM:List Int
 bR:List Int
 gate:Int
 drill:Int
 iH:Int
 jK:Int
 eJ:Int
deriving Inhabited
structure eP where
 uses:Int
 freshMost:Int
 makes:Int
 greyMost:Int
 blackMost:Int
 fresh:Int
 grey:Int
 black:Int
 making:Int
 nF:Int
 lM:Int
 uS:Int
 used:Int
deriving Inhabited
structure Lot where
 gU:Int
 units:Int
deriving DecidableEq,Inhabited
structure Good where
 per:Int
 life:Int
 lots:List Lot
 loaded:Int
 eaten:Int
 spoilt:Int
 lacked:Int
deriving Inhabited
structure gC where
 room:Int
 goods:List Good
deriving Inhabited
structure aU where
 way:Way
 aF:cZ
 tanks:eP
 stores:gC
deriving Inhabited
def cJ(n lo hi:Int):Bool:=decide (n < lo)||decide (n > hi)
def wP(W:Way):Int:=(W.legs.map Leg.hours).sum
def GY(W:Way):Int:=(W.last+1)*24
def today(W:Way):Int:=W.hour / 24
def eM:List Leg→Int→Option Nat
 |[],_=>none
 |x::l,t=>if t < x.hours then some 0 else(eM l (t - x.hours)).map (·+1)
def tH(W:Way)(t:Int):Leg:=match eM W.legs t with
 |none=>⟨0,0,0⟩
 |some k=>W.legs.getD k ⟨0,0,0⟩
def eH(W:Way)(t:Int):Int:=(tH W t).miles
def eR(W:Way)(t:Int):Int:=(tH W t).knots
def gP(W:Way):Bool:=decide (eH W W.hour > 0)
def kG(W:Way):Bool:=!gP W&&decide (eH W (W.hour+1) > 0)
def jN(W:Way):Way:=match eM W.legs W.hour with
 |none=>W
 |some k=>let x:=W.legs.getD k ⟨0,0,0⟩
  {W with legs:=W.legs.set k ⟨x.hours+1,x.miles,x.knots⟩,fC:=W.fC+1 }
def cB(P:cZ):Int:=(P.aM.count 0:Nat)
def FH(P:cZ):Int:=(P.aM.count 1:Nat)
def lA(P:cZ):Bool:=decide (FH P=0)&&decide (P.gate=0)
def fN(P:cZ)(p:Int):Bool:=decide (p < (P.persons.length:Int))&&!decide (P.aM.getD p.toNat 0=2)
def fU(P:cZ)(p:Int):Bool:=decide (p < (P.parties.length:Int))&&fN P (P.parties.getD p.toNat ⟨0,0,0⟩).first
def mY(T:eP):Int:=T.freshMost - T.fresh
def FM(T:eP)(n:Int):eP:={ T with fresh:=T.fresh+n,uS:=T.uS+n }
def letGo(T:eP)(m k:Int):eP:=
 let A:=if T.nF=1∧m≥4∧k≥6 then { T with grey:=0 } else T
 if A.lM=1∧m≥12∧k≥4 then { A with black:=0 } else A
def kY(i j:Int):Int:=if j < i then j else i
def vZ(T:eP)(m:Int):eP:=if T.making=1∧m≥12 then FM T (kY T.makes (mY T)) else T
def greyOf(n:Int):Int:=n*9 / 10
def F1(T:eP):Int:=min (min T.fresh (((T.greyMost - T.grey)*10+9) / 9)) ((T.blackMost - T.black)*10)
def zG(T:eP)(wanted:Int):Int:=kY wanted (F1 T)
def use(T:eP)(wanted:Int):eP:=
 let u:=zG T wanted
 {T with fresh:=T.fresh - u,used:=T.used+u,grey:=T.grey+greyOf u,black:=T.black+(u - greyOf u) }
def mJ(T:eP)(m k aboard:Int):Int:=aboard*T.uses - zG (vZ (letGo T m k) m) (aboard*T.uses)
def iU(T:eP)(m k aboard:Int):eP:=use (vZ (letGo T m k) m) (aboard*T.uses)
def sN(G:Good):Int:=(G.lots.map Lot.units).sum
def uC(S:gC):Int:=(S.goods.map sN).sum
def oT(S:gC):Int:=(S.goods.map Good.loaded).sum
def lQ(G:Good)(d:Int):Bool:=(G.lots.map fun l=>decide (l.gU=d)).any id
def jO:Int→List Lot→List Lot×Int
 |n,[]=>([],n)
 |n,x::l=>
  let t:=kY n x.units
  let r:=jO (n - t) l
  (if t < x.units then⟨x.gU,x.units - t⟩::r.1 else r.1,r.2)
def eat(G:Good)(wanted:Int):Good:=
 let r:=jO wanted G.lots
 {G with lots:=r.1,eaten:=G.eaten+(wanted - r.2),lacked:=G.lacked+r.2 }
def pK(G:Good)(day:Int):Good:=
 {G with spoilt:=G.spoilt+((G.lots.filter fun l=>decide (l.gU < day)).map Lot.units).sum,lots:=G.lots.filter fun l=>decide (l.gU≥day) }
def GH(S:gC)(aboard day:Int):gC:={ S with goods:=S.goods.map fun g=>pK (eat g (g.per*aboard)) day }
def eS(V:aU):aU×Int:=
 let W:=if (kG V.way&&!lA V.aF)=true then jN V.way else V.way
 let m:=eH W W.hour
 let k:=eR W W.hour
 let n:=cB V.aF
 let W2:={ W with hour:=W.hour+1 }
 let S:=if W2.hour % 24=0 then GH V.stores n (today W2) else V.stores
 ({ V with way:=W2,tanks:=iU V.tanks m k n,stores:=S },mJ V.tanks m k n)
def rX(P:cZ)(c:Int):Bool:=(((List.range P.parties.length).filter fun k=>decide ((P.parties.getD k ⟨0,0,0⟩).cabin=c)).map fun k=>fU P (k:Nat)).any id
def does(P:cZ)(k:Nat)(many rank flat:Int):Bool:=
 let c:=P.cabins.getD k ⟨0,0,0,0,0⟩
 (decide (c.berths≥many)&&(decide (c.rank≥rank)&&decide (c.flat≥flat)))&&!rX P (k:Nat)
def xQ(c o:Cabin):Bool:=if c.rank≠o.rank then decide (c.rank < o.rank) else decide (c.berths < o.berths)
def lV(P:cZ)(many rank flat:Int)(b:Option Nat)(k:Nat):Option Nat:=if does P k many rank flat=true then(match b with
 |none=>some k
 |some j=>if xQ (P.cabins.getD k ⟨0,0,0,0,0⟩) (P.cabins.getD j ⟨0,0,0,0,0⟩)=true then some k else some j) else b
def uZ(P:cZ)(many rank flat:Int):Option Nat:=(List.range P.cabins.length).foldl (lV P many rank flat) none
def PQ(P:cZ)(many:Nat)(children cabin:Int):cZ:=
 {P with
  parties:=P.parties++[⟨P.persons.length,many,cabin⟩]
  persons:=P.persons++(List.range many).map fun k=>⟨P.parties.length,decide ((k:Int)≥(many:Int) - children)⟩
  aM:=P.aM++List.replicate many 0
  bR:=P.bR++List.replicate many (-1) }
def RM(P:cZ):cZ:={ P with drill:=P.drill+1,bR:=P.persons.map fun _=> -1 }
def fB(P:cZ)(s:Int):List Nat:=(List.range P.aM.length).filter fun k=>decide (P.aM.getD k 0=s)
def nM(P:cZ):List Nat:=(fB P 0).filter fun k=>decide (P.bR.getD k 0= -1)
def Y6(P:cZ):Int:=((nM P).length:Nat)
def lD(P:cZ):List Nat:=(List.range P.cabins.length).filter fun k=>!rX P (k:Nat)
def mD(l:List Nat):Int:=(l.map fun k=>(2:Int) ^ k).sum
def iV(p:Party):List Int:=(List.range p.many.toNat).map fun(k:Nat)=>p.first+(k:Int)
def CG(V:aU)(h m k:Int):aU×List Int:=
 if m > 0∧wP V.way≤V.way.hour then(V,[-16])
 else if cJ h 1 500=true∨m > 1000∨k > 40 then(V,[-22])
 else if V.way.legs.length=10 then(V,[-28])
 else if V.way.hour > wP V.way then(V,[-16])
 else({ V with way:={ V.way with legs:=V.way.legs++[⟨h,m,k⟩] } },[wP V.way+h])
def wE(V:aU)(p l:Int):aU×List Int:=
 if cJ p 1 1000=true∨cJ l 1 100=true then(V,[-22])
 else if V.stores.goods.length=6 then(V,[-28])
 else({ V with stores:={ V.stores with goods:=V.stores.goods++[⟨p,l,[],0,0,0,0⟩] } },[(V.stores.goods.length:Nat)])
def sE(V:aU)(d p r b f:Int):aU×List Int:=
 if d > 20∨p > 500∨r > 3∨cJ b 1 6=true∨f > 1 then(V,[-22])
 else if (V.aF.cabins.map fun c=>decide (c.deck=d)&&decide (c.place=p)).any id=true then(V,[-22])
 else if V.aF.cabins.length=12 then(V,[-28])
 else({ V with aF:={ V.aF with cabins:=V.aF.cabins++[⟨d,p,r,b,f⟩] } },[(V.aF.cabins.length:Nat)])
def sO(V:aU)(n c r f:Int):aU×List Int:=
 if cJ n 1 6=true∨c≥n∨r > 3∨f > 1 then(V,[-22])
 else if gP V.way=true then(V,[-16])
 else if V.aF.parties.length=8∨(V.aF.persons.length:Int)+n > 16 then(V,[-28])
 else if cB V.aF+n > V.aF.most then(V,[-62])
 else match uZ V.aF n r f with
  |none=>(V,[-33])
  |some k=>({ V with aF:=PQ V.aF n.toNat c k },[(V.aF.parties.length:Nat),(k:Nat),(V.aF.persons.length:Nat),(V.aF.persons.length:Nat)])
def sL(V:aU)(p:Int):aU×List Int:=
 if fU V.aF p=false then(V,[-2])
 else
  let l:=iV (V.aF.parties.getD p.toNat ⟨0,0,0⟩)
  if (l.map fun x=>decide (V.aF.aM.getD x.toNat 0=0)).any id=true then(V,[-16])
  else({ V with aF:={ V.aF with aM:=l.foldl (fun s x=>s.set x.toNat 2) V.aF.aM } },[(l.length:Nat)])
def vG(V:aU)(o:Int):aU×List Int:=
 if o > 1 then(V,[-22])
 else if o=1∧gP V.way=true then(V,[-16])
 else if V.aF.gate=o then(V,[-17])
 else({ V with aF:={ V.aF with gate:=o } },[V.aF.gate])
def tD(V:aU)(c:Int):aU×List Int:=
 let P:=V.aF
 if P.gate=0 then(V,[-16])
 else if 100000=P.iH∨100000=P.jK∨100000=P.eJ then(V,[-28])
 else if fN P c=false then({ V with aF:={ P with eJ:=P.eJ+1 } },[2,0])
 else if P.aM.getD c.toNat 0=1 then
  if cB P≥P.most then(V,[-62])
  else({ V with aF:={ P with aM:=P.aM.set c.toNat 0,jK:=P.jK+1 } },[1,c])
 else if (P.persons.getD c.toNat ⟨0,false⟩).ay=true∧P.aM.getD (P.parties.getD (P.persons.getD c.toNat ⟨0,false⟩).party.toNat ⟨0,0,0⟩).first.toNat 0≠1 then(V,[-33])
 else({ V with aF:={ P with aM:=P.aM.set c.toNat 1,iH:=P.iH+1 } },[0,c])
def jL(G:Good)(d n:Int):Good:={ G with loaded:=G.loaded+n,lots:=if lQ G d=true then G.lots.dropLast++[⟨d,n+(G.lots.getLastD ⟨0,0⟩).units⟩] else G.lots++[⟨d,n⟩] }
def wI(V:aU)(g n:Int):aU×List Int:=
 let S:=V.stores
 if g≥(S.goods.length:Int) then(V,[-2])
 else if n=0 then(V,[-22])
 else if gP V.way=true then(V,[-16])
 else
  let G:=S.goods.getD g.toNat ⟨0,0,[],0,0,0,0⟩
  if uC S+n > S.room∨G.loaded+n > 1000000000∨oT S+n > 2000000000 then(V,[-62])
  else
   let d:=today V.way+G.life
   if G.lots.length=6∧lQ G d=false then(V,[-28])
   else
    let G2:=jL G d n
    ({ V with stores:={ S with goods:=S.goods.set g.toNat G2 } },[sN G2,d])
def pH(V:aU)(n:Int):aU×List Int:=
 if n=0 then(V,[-22])
 else if gP V.way=true then(V,[-16])
 else if n > mY V.tanks then(V,[-62])
 else if V.tanks.uS+n > 1000000000 then(V,[-28])
 else({ V with tanks:=FM V.tanks n },[V.tanks.fresh+n])
def pP(V:aU)(g b:Int):aU×List Int:=
 if g=0∧b=0 then(V,[-22])
 else if gP V.way=true then(V,[-16])
 else if g > V.tanks.grey∨b > V.tanks.black then(V,[-12])
 else({ V with tanks:={ V.tanks with grey:=V.tanks.grey - g,black:=V.tanks.black - b } },[V.tanks.grey - g,V.tanks.black - b])
def CB(V:aU)(a g b:Int):aU×List Int:=
 let T:=V.tanks
 if a > 1∨g > 1∨b > 1 then(V,[-22])
 else
  let w:=T.making+2*T.nF+4*T.lM
  if w=a+2*g+4*b then(V,[-17])
  else({ V with tanks:={ T with making:=a,nF:=g,lM:=b } },[w])
def sB(V:aU):aU×List Int:=
 if V.aF.drill=1000 then(V,[-28]) else({ V with aF:=RM V.aF },[V.aF.drill+1])
def QZ(V:aU)(p:Int):aU×List Int:=
 let P:=V.aF
 if fN P p=false then(V,[-2])
 else if P.aM.getD p.toNat 0=1 then(V,[-16])
 else if P.drill=0 then(V,[-6])
 else if P.bR.getD p.toNat 0≥V.way.hour*60 then(V,[-17])
 else
  let P2:={ P with bR:=P.bR.set p.toNat (V.way.hour*60) }
  ({ V with aF:=P2 },[Y6 P2])
def dU:Nat→aU→Int→aU×Int
 |0,V,k=>(V,k)
 |n+1,V,k=>dU n (eS V).1 (k+(eS V).2)
def kO(V:aU)(n:Int):aU×List Int:=
 if cJ n 1 240=true then(V,[-22])
 else if V.way.hour+n > GY V.way then(V,[-75])
 else
  let r:=dU n.toNat V 0
  (r.1,[r.1.way.hour,r.1.way.fC - V.way.fC,r.2,if gP r.1.way=true then 0 else 1])
def CM(V:aU):List Int:=[eH V.way V.way.hour,eR V.way V.way.hour,if gP V.way=true then 0 else 1,if kG V.way=true then 1 else 0,wP V.way]
def CL(V:aU):List Int:=[if lA V.aF=true then 1 else 0,((fB V.aF 1).length:Nat),V.aF.gate,V.way.fC]
def xZ(V:aU):List Int:=[((fB V.aF 0).length:Nat),mD (fB V.aF 0),V.aF.most - ((fB V.aF 0).length:Nat)]
def vA(V:aU):List Int:=[((fB V.aF 1).length:Nat),mD (fB V.aF 1)]
def tZ(V:aU):List Int:=if V.aF.drill=0 then [-6] else [((nM V.aF).length:Nat),mD (nM V.aF),V.aF.drill]
def NK(V:aU)(c:Int):List Int:=if fN V.aF c=false then [-2] else [c,(V.aF.persons.getD c.toNat ⟨0,false⟩).party,if V.aF.aM.getD c.toNat 0=1 then 1 else 0]
def zJ(l:List Int):List Nat:=l.map Int.toNat
def xI(V:aU)(p:Int):List Int:=if fU V.aF p=false then [-2] else
 let q:=V.aF.parties.getD p.toNat ⟨0,0,0⟩
 [q.many,mD (zJ (iV q)),q.cabin]
def ZR(P:cZ):List Nat:=(List.range P.parties.length).filter fun k=>fU P (k:Nat)
def yE(V:aU):List Int:=[((lD V.aF).length:Nat),mD (lD V.aF),(V.aF.cabins.length:Nat),((ZR V.aF).length:Nat)]
def xX(V:aU)(g:Int):List Int:=if g≥(V.stores.goods.length:Int) then [-2] else
 let G:=V.stores.goods.getD g.toNat ⟨0,0,[],0,0,0,0⟩
 [sN G,G.eaten,G.spoilt,G.lacked]
def CU(V:aU):List Int:=[V.tanks.fresh,V.tanks.grey,V.tanks.black,((fB V.aF 0).length:Nat)*V.tanks.uses]
def LY(V:aU):List Int:=[(V.aF.persons.length:Nat),((fB V.aF 2).length:Nat),V.tanks.uS,V.tanks.used,oT V.stores,V.way.fC]
def nS:List Leg→Int→Int→Int
 |[],b,h=>max b h
 |x::l,b,h=>if x.miles=0∧b+x.hours > h then max b h else nS l (b+x.hours) h
def kZ(W:Way):Int:=min (nS W.legs 0 ((today W+1)*24) / 24) (W.last+1)
def lO(per n:Int):Nat→Int→Good→Good
 |0,_,G=>G
 |k+1,d,G=>lO per n k (d+1) (pK (eat G (per*n)) (d+1))
def O8(G:Good)(n d e:Int):Int:=(lO G.per n (e - d).toNat d G).lacked - G.lacked
def mV(V:aU)(G:Good):Int:=O8 G (cB V.aF) (today V.way) (kZ V.way)
def xM(V:aU)(g:Int):List Int:=if g≥(V.stores.goods.length:Int) then [-2] else
 let G:=V.stores.goods.getD g.toNat ⟨0,0,[],0,0,0,0⟩
 if mV V G > 0∧today V.way+G.life < kZ V.way - 1 then [-33] else [mV V G,kZ V.way]
def nB(V:aU):List Nat:=(List.range V.stores.goods.length).filter fun k=>decide (mV V (V.stores.goods.getD k ⟨0,0,[],0,0,0,0⟩) > 0)
def CQ(V:aU):List Int:=[((nB V).length:Nat),mD (nB V)]
def lastsGo(W:Way)(n:Int):Nat→Nat→eP→Nat
 |0,h,_=>h
 |f+1,h,T=>if mJ T (eH W (W.hour+(h:Nat))) (eR W (W.hour+(h:Nat))) n > 0 then h else lastsGo W n f (h+1) (iU T (eH W (W.hour+(h:Nat))) (eR W (W.hour+(h:Nat))) n)
def xO(V:aU):List Int:=[(lastsGo V.way (cB V.aF) 500 0 V.tanks:Nat)]
def xV(V:aU)(n:Int):List Int:=
 let r:=kO V n
 if r.2.getD 0 0 < 0 then [-22] else [r.1.tanks.fresh,r.2.getD 1 0,r.2.getD 3 0,r.2.getD 2 0]
def fR(x:Km442.Leg):Leg:=⟨x.hours,x.miles,x.knots⟩
theorem T1:∀(ls:List Km442.Leg) (n:Nat),(match eM (ls.map fR) n with
  |none=>(⟨0,0,0⟩:Leg)
  |some k=>(ls.map fR).getD k ⟨0,0,0⟩)=fR (Km442.legAt ls n)
 |[],n=>rfl
 |x::l,n=>by
  have ih:=T1 l (n - x.hours);unfold Km442.legAt;simp only[List.map_cons,eM]
  by_cases h:n < x.hours
  ·rw[if_pos (show((n:Nat):Int) < (fR x).hours by show(n:Int) < (x.hours:Int);omega),if_pos h];rfl
  ·rw[if_neg (show ¬((n:Nat):Int) < (fR x).hours by show ¬(n:Int) < (x.hours:Int);omega),if_neg h];have e:((n:Nat):Int) - (fR x).hours=((n - x.hours:Nat):Int):=by show(n:Int) - (x.hours:Int)=_;omega
   rw[e,←ih]
   cases eM (l.map fR) ((n - x.hours:Nat):Int) with
   |none=>rfl
   |some k=>simp
theorem S3{W:Way}{ls:List Km442.Leg}(h:W.legs=ls.map fR)(n:Nat):tH W n=fR (Km442.legAt ls n):=by
 unfold tH;rw[h];exact T1 ls n
theorem K1:∀(ls:List Km442.Leg) (n k:Nat),eM (ls.map fR) n=some k→
  (ls.map fR).set k ⟨((ls.map fR).getD k ⟨0,0,0⟩).hours+1,((ls.map fR).getD k ⟨0,0,0⟩).miles,((ls.map fR).getD k ⟨0,0,0⟩).knots⟩=(Km443.longer ls n).map fR
 |[],n,k,h=>by cases h
 |x::l,n,k,h=>by
  simp only[List.map_cons,eM] at h;unfold Km443.longer
  by_cases c:n < x.hours
  ·rw[if_pos (show((n:Nat):Int) < (fR x).hours by show(n:Int) < (x.hours:Int);omega)] at h;cases h;rw[if_pos c];rfl
  ·rw[if_neg (show ¬((n:Nat):Int) < (fR x).hours by show ¬(n:Int) < (x.hours:Int);omega)] at h;have e:((n:Nat):Int) - (fR x).hours=((n - x.hours:Nat):Int):=by show(n:Int) - (x.hours:Int)=_;omega
   rw[e] at h;rw[if_neg c]
   cases q:eM (l.map fR) ((n - x.hours:Nat):Int) with
   |none=>rw[q] at h;cases h
   |some j=>
    rw[q] at h;have hk:j+1=k:=Option.some.inj h;subst hk;have ih:=K1 l (n - x.hours) j q;simp only[List.map_cons,List.set_cons_succ,List.getD_cons_succ];rw[ih]
theorem Hr{ls:List Km442.Leg}:((ls.map fR).map Leg.hours).sum=((Km442.sum (ls.map fun x=>x.hours):Nat):Int):=by
 have g:∀(l:List Km442.Leg) (a:Nat),((l.map fun x=>x.hours).foldl (·+·) a:Nat)=a+(l.map fun x=>x.hours).sum:=by
  intro l
  induction l with
  |nil=>intro a;simp
  |cons x l ih=>intro a;simp only[List.map_cons,List.foldl_cons,List.sum_cons];rw[ih];omega
 unfold Km442.sum;rw[g]
 induction ls with
 |nil=>rfl
 |cons x l ih=>
  simp only[List.map_cons,List.sum_cons];rw[ih];show(x.hours:Int)+_=_;push_cast;omega
structure uV(T:eP)(s:Km442.Ship):Prop where
 uses:T.uses=s.uses
 fm:T.freshMost=s.freshMost
 makes:T.makes=s.makes
 gm:T.greyMost=s.greyMost
 bm:T.blackMost=s.blackMost
 fresh:T.fresh=s.fresh
 grey:T.grey=s.grey
 black:T.black=s.black
 making:T.making=if s.making=true then 1 else 0
 gg:T.nF=if s.letGrey=true then 1 else 0
 bg:T.lM=if s.letBlack=true then 1 else 0
 made:T.uS=s.made
 used:T.used=s.used
 ggo:s.greyGo=s.greyMost
 bgo:s.blackGo=s.blackMost
 fl:s.fresh≤s.freshMost
 gl:s.grey≤s.greyMost
 bl:s.black≤s.blackMost
end CS
namespace CS
open Km442
theorem rm(i j:Int):kY i j=min i j:=by unfold kY;omega
theorem rp{h m:Nat}{l b:Bool}(hl:h≤m):h - goes h m l b=if l=true∧b=true then 0 else h:=by
 unfold goes
 by_cases c:l=true∧b=true
 ·rw[if_pos c,if_pos c];omega
 ·rw[if_neg c,if_neg c];omega
theorem Fq{T:eP}{s:Ship}(h:uV T s)(x:Km442.Leg):
  letGo T x.miles x.knots={ T with grey:=((s.grey - goes s.grey s.greyGo s.letGrey (mayGrey x):Nat):Int),black:=((s.black - goes s.black s.blackGo s.letBlack (mayBlack x):Nat):Int) }:=by
 have hg:((s.grey - goes s.grey s.greyGo s.letGrey (mayGrey x):Nat):Int)=if T.nF=1∧(x.miles:Int)≥4∧(x.knots:Int)≥6 then 0 else T.grey:=by
  rw[rp (by rw[h.ggo];exact h.gl),h.gg,h.grey];unfold mayGrey
  by_cases a:s.letGrey=true <;> by_cases b:4≤x.miles <;> by_cases c:6≤x.knots <;> simp[a,b,c] <;> omega
 have hb:((s.black - goes s.black s.blackGo s.letBlack (mayBlack x):Nat):Int)=if T.lM=1∧(x.miles:Int)≥12∧(x.knots:Int)≥4 then 0 else T.black:=by
  rw[rp (by rw[h.bgo];exact h.bl),h.bg,h.black];unfold mayBlack
  by_cases a:s.letBlack=true <;> by_cases b:12≤x.miles <;> by_cases c:4≤x.knots <;> simp[a,b,c] <;> omega
 rw[hg,hb];unfold letGo
 by_cases a:T.nF=1∧(x.miles:Int)≥4∧(x.knots:Int)≥6
 ·by_cases b:T.lM=1∧(x.miles:Int)≥12∧(x.knots:Int)≥4
  ·simp only[if_pos a,if_pos b]
  ·simp only[if_pos a,if_neg b]
 ·by_cases b:T.lM=1∧(x.miles:Int)≥12∧(x.knots:Int)≥4
  ·simp only[if_neg a,if_pos b]
  ·simp only[if_neg a,if_neg b]
theorem S6(n:Nat):greyOf (n:Int)=((Km442.greyOf n:Nat):Int):=by unfold greyOf Km442.greyOf;omega
theorem Bf(n:Nat):Km442.greyOf n≤n:=by unfold Km442.greyOf;omega
theorem R6{T:eP}{s:Ship}(h:uV T s){x:Km442.Leg}(hx:s.leg s.hour=x){n:Nat}(hn:s.persons=n)(hw:s.wants < 2 ^ 64):
  uV (iU T x.miles x.knots n) s.hourly∧mJ T x.miles x.knots n=((s.hourly.lacked - s.lacked:Nat):Int)∧s.lacked≤s.hourly.lacked:=by
 have hm:((s.makesNow:Nat):Int)=if T.making=1∧(x.miles:Int)≥12 then kY T.makes (mY T) else 0:=by
  unfold Ship.makesNow mayMake;rw[hx,h.making,rm];unfold mY;rw[h.makes,h.fm,h.fresh];have:=h.fl
  by_cases a:s.making=true <;> by_cases b:12≤x.miles <;> simp[a,b] <;> omega
 have hml:s.fresh+s.makesNow≤s.freshMost:=by
  unfold Ship.makesNow;have:=h.fl
  split <;> omega
 generalize hM:s.makesNow=M at hm hml;generalize hG:s.grey - goes s.grey s.greyGo s.letGrey (mayGrey x)=G;generalize hB:s.black - goes s.black s.blackGo s.letBlack (mayBlack x)=B;have hGl:G≤s.greyMost:=by have:=h.gl;omega
 have hBl:B≤s.blackMost:=by have:=h.bl;omega
 have hU:=vz s (f:=s.fresh+M) (g:=G) (b:=B) hGl hBl hw;generalize hUu:s.usesNow (s.fresh+M) G B=U at hU
 have hT:vZ (letGo T x.miles x.knots) x.miles={ T with grey:=(G:Int),black:=(B:Int),fresh:=((s.fresh+M:Nat):Int),uS:=((s.made+M:Nat):Int) }:=by
  rw[Fq h,hG,hB];unfold vZ FM mY;simp only[];have e:=h.fresh;have e2:=h.made;unfold mY at hm
  by_cases c:T.making=1∧(x.miles:Int)≥12
  ·rw[if_pos c] at hm;rw[if_pos c];rw[←hm,e,e2];push_cast;rfl
  ·rw[if_neg c] at hm;rw[if_neg c];have hm0:M=0:=by omega
   rw[hm0,e,e2];rfl
 have hwant:((n:Nat):Int)*T.uses=((s.wants:Nat):Int):=by
  unfold Ship.wants;rw[h.uses,hn];push_cast;rfl
 have hgm:=h.gm;have hbm:=h.bm;have hu:zG (vZ (letGo T x.miles x.knots) x.miles) ((n:Nat)*T.uses)=(U:Int):=by
  rw[hT,hwant,hU];unfold zG F1 cap;rw[rm];simp only[];rw[hgm,hbm];have a1:((s.greyMost:Int) - (G:Int))=((s.greyMost - G:Nat):Int):=by omega
  have a2:((s.blackMost:Int) - (B:Int))=((s.blackMost - B:Nat):Int):=by omega
  rw[a1,a2];generalize s.greyMost - G=gr;generalize s.blackMost - B=br;omega
 have hUw:U≤s.wants:=by rw[hU];omega
 have hUf:U≤s.fresh+M:=by rw[hU];omega
 have hfit:au s.greyMost s.blackMost G B U:=(V2 hGl hBl).2 (by rw[hU];omega);obtain⟨f1,f2⟩:=hfit;have hgU:=Bf U
 have hh:s.hourly={ s with hour:=s.hour+1,fresh:=s.fresh+M - U,grey:=G+Km442.greyOf U,black:=B+(U - Km442.greyOf U),made:=s.made+M,used:=s.used+U,goneGrey:=s.goneGrey+goes s.grey s.greyGo s.letGrey (mayGrey x),goneBlack:=s.goneBlack+goes s.black s.blackGo s.letBlack (mayBlack x),lacked:=s.lacked+(s.wants - U) }:=by
  unfold Ship.hourly;simp only[hx,hM,hG,hB,hUu]
 refine⟨?_,?_,?_⟩
 ·rw[hh];unfold iU use;rw[hu,hT];refine⟨h.uses,h.fm,h.makes,h.gm,h.bm,?_,?_,?_,h.making,h.gg,h.bg,rfl,?_,h.ggo,h.bgo,?_,f1,f2⟩
  ·show((s.fresh+M:Nat):Int) - (U:Int)=((s.fresh+M - U:Nat):Int);omega
  ·show(G:Int)+greyOf (U:Int)=((G+Km442.greyOf U:Nat):Int);rw[S6];push_cast;rfl
  ·show(B:Int)+((U:Int) - greyOf (U:Int))=((B+(U - Km442.greyOf U):Nat):Int);rw[S6];omega
  ·show T.used+(U:Int)=((s.used+U:Nat):Int);rw[h.used];push_cast;rfl
  ·show s.fresh+M - U≤s.freshMost;omega
 ·unfold mJ;rw[hu,hwant,hh];simp only[];omega
 ·rw[hh];simp only[];omega
end CS
namespace CS
def iO(x:Nat×Nat):Lot:=⟨x.1,x.2⟩
def eD(g:Km438.Good):Good:=⟨g.per,g.life,g.lots.map iO,g.loaded,g.eaten,g.spoilt,g.lacked⟩
def Pos(l:Km438.Lots):Prop:=∀x∈l,0 < x.2
theorem UQ:∀(l:Km438.Lots),Pos l→jO 0 (l.map iO)=(l.map iO,0)
 |[],_=>rfl
 |x::l,h=>by
  have hx:0 < x.2:=h x List.mem_cons_self;have ih:=UQ l fun y hy=>h y (List.mem_cons_of_mem _ hy);simp only[List.map_cons,jO];have e:kY 0 (iO x).units=0:=by unfold kY iO;simp only[];rw[if_neg (by omega)]
  rw[e];simp only[Int.sub_zero];rw[ih];rw[if_pos (show(0:Int) < (iO x).units by show(0:Int) < (x.2:Int);omega)]
theorem ZE:∀(l:Km438.Lots) (n:Nat),Pos l→jO n (l.map iO)=((Km438.eat n l).1.map iO,(((Km438.eat n l).2:Nat):Int))∧Pos (Km438.eat n l).1∧(Km438.eat n l).2≤n
 |[],n,_=>⟨rfl,fun _ h=>absurd h (by simp[Km438.eat]),Nat.le_refl _⟩
 |(e,a)::l,n,h=>by
  have ha:0 < a:=h (e,a) List.mem_cons_self;have hl:Pos l:=fun y hy=>h y (List.mem_cons_of_mem _ hy);simp only[List.map_cons,jO,Km438.eat]
  by_cases c:a≤n
  ·obtain⟨i1,i2,i3⟩:=ZE l (n - a) hl;rw[if_pos c];have m:kY (n:Int) (iO (e,a)).units=(a:Int):=by
    unfold kY iO;simp only[]
    by_cases q:(a:Int) < (n:Int)
    ·rw[if_pos q]
    ·rw[if_neg q];omega
   rw[m,if_neg (show ¬(a:Int) < (iO (e,a)).units by show ¬(a:Int) < (a:Int);omega)];have d:(n:Int) - (a:Int)=((n - a:Nat):Int):=by omega
   rw[d,i1];exact⟨rfl,i2,by omega⟩
  ·rw[if_neg c];have m:kY (n:Int) (iO (e,a)).units=(n:Int):=by
    unfold kY iO;simp only[];rw[if_neg (by omega)]
   rw[m,if_pos (show(n:Int) < (iO (e,a)).units by show(n:Int) < (a:Int);omega),Int.sub_self,UQ l hl];refine⟨?_,?_,Nat.zero_le _⟩
   ·simp only[List.map_cons,iO];congr 2;show(⟨(e:Int),(a:Int) - (n:Int)⟩:Lot)=⟨(e:Int),((a - n:Nat):Int)⟩;congr 1;omega
   ·intro y hy
    rcases List.mem_cons.mp hy with q |q
    ·rw[q];show 0 < a - n;omega
    ·exact hl y q
theorem mU:∀(l:List Nat) (a:Nat),l.foldl (·+·) a=a+l.sum
 |[],a=>by simp
 |x::l,a=>by simp only[List.foldl_cons,List.sum_cons];rw[mU l];omega
theorem NY:∀(l:List Nat),(l.map fun(x:Nat)=>(x:Int)).sum=((l.sum:Nat):Int)
 |[]=>rfl
 |x::l=>by simp only[List.map_cons,List.sum_cons];rw[NY l];push_cast;rfl
theorem J0(l:Km438.Lots):((l.map iO).map Lot.units).sum=((Km438.amount l:Nat):Int):=by
 unfold Km438.amount Km438.sum;rw[mU,Nat.zero_add,←NY];congr 1;rw[List.map_map,List.map_map];rfl
theorem vf(l:Km438.Lots)(t:Nat):(l.map iO).filter (fun x=>decide (x.gU < (t:Int)))=(l.filter fun y=>decide (y.1 < t)).map iO:=by
 induction l with
 |nil=>rfl
 |cons x l ih=>
  simp only[List.map_cons,List.filter_cons];have e:decide ((iO x).gU < (t:Int))=decide (x.1 < t):=by
   unfold iO;simp only[]
   by_cases c:x.1 < t
   ·rw[decide_eq_true c,decide_eq_true (by omega)]
   ·rw[decide_eq_false c,decide_eq_false (by omega)]
  rw[e,ih];cases decide (x.1 < t) <;> rfl
theorem Ct(l:Km438.Lots)(t:Nat):(l.map iO).filter (fun x=>decide (x.gU≥(t:Int)))=(Km438.fresh_ l t).map iO:=by
 unfold Km438.fresh_
 induction l with
 |nil=>rfl
 |cons x l ih=>
  simp only[List.map_cons,List.filter_cons];have e:decide ((iO x).gU≥(t:Int))=decide (t≤x.1):=by
   unfold iO;simp only[]
   by_cases c:t≤x.1
   ·rw[decide_eq_true c,decide_eq_true (by omega)]
   ·rw[decide_eq_false c,decide_eq_false (by omega)]
  rw[e,ih];cases decide (t≤x.1) <;> rfl
theorem Q8(g:Km438.Good)(n t:Nat)(h:Pos g.lots):pK (eat (eD g) n) ((t+1:Nat):Int)=eD (g.day n t)∧Pos (g.day n t).lots:=by
 obtain⟨e1,e2,e3⟩:=ZE g.lots n h;unfold pK eat eD Km438.Good.day;simp only[];rw[e1];simp only[];rw[Ct,vf,J0];refine⟨?_,fun y hy=>e2 y ?_⟩
 ·congr 1;push_cast;omega
 ·unfold Km438.fresh_ at hy;exact(List.mem_filter.mp hy).1
structure EX(g:Km438.Good)(t:Nat):Prop where
 pos:Pos g.lots
 srt:(g.lots.map Prod.fst).Pairwise (· < ·)
 top:∀x∈g.lots,x.1≤t+g.life
 few:g.lots.length≤6
 low:∀x∈g.lots,t≤x.1
 perp:1≤g.per
 per3:g.per≤1000
 wb:g.life≤100
theorem fw:∀(l:Km438.Lots) (n:Nat),((Km438.eat n l).1.map Prod.fst).Sublist (l.map Prod.fst)
 |[],_=>List.Sublist.refl _
 |(e,a)::l,n=>by
  unfold Km438.eat
  by_cases c:a≤n
  ·rw[if_pos c];exact(fw l (n - a)).cons _
  ·rw[if_neg c];exact List.Sublist.refl _
theorem EX.day{g:Km438.Good}{t:Nat}(h:EX g t)(n:Nat):EX (g.day n t) (t+1):=by
 have hs:((g.day n t).lots.map Prod.fst).Sublist (g.lots.map Prod.fst):=by
  show((Km438.fresh_ (Km438.eat n g.lots).1 (t+1)).map Prod.fst).Sublist _;exact(List.Sublist.map _ List.filter_sublist).trans (fw g.lots n)
 refine⟨(Q8 g n t h.pos).2,h.srt.sublist hs,fun x hx=>?_,?_,fun x hx=>?_,h.perp,h.per3,h.wb⟩
 ·have :x.1∈g.lots.map Prod.fst:=hs.subset (List.mem_map.mpr ⟨x,hx,rfl⟩);obtain⟨y,hy,e⟩:=List.mem_map.mp this;have:=h.top y hy;show x.1≤t+1+g.life;omega
 ·have:=hs.length_le;rw[List.length_map,List.length_map] at this;exact Nat.le_trans this h.few
 ·have hx2:x∈Km438.fresh_ (Km438.eat n g.lots).1 (t+1):=hx;unfold Km438.fresh_ at hx2;exact of_decide_eq_true (List.mem_filter.mp hx2).2
theorem wQ{α:Type}(d:α)(f:α→Bool):∀(l:List α),((List.range l.length).filter fun p=>f (l.getD p d)).length=(l.filter f).length:=by
 intro l
 induction l with
 |nil=>rfl
 |cons a l ih=>
  rw[List.length_cons,List.range_succ_eq_map,List.filter_cons];have e:((List.map Nat.succ (List.range l.length)).filter fun p=>f ((a::l).getD p d)).length=(l.filter f).length:=by
   rw[List.filter_map,List.length_map];exact ih
  simp only[List.getD_cons_zero,List.filter_cons]
  cases f a with
  |true=>simp only[if_true,List.length_cons];rw[e]
  |false=>simp only[Bool.false_eq_true,if_false];rw[e]
def eO(p:Km440.Person):Int:=if p.gone=true then 2 else if p.ashore=true then 1 else 0
theorem al{s:Km440.Ship}{p:Nat}(h:p < s.persons.length):s.is p=!(s.person p).gone:=by
 unfold Km440.Ship.is;rw[decide_eq_true h,Bool.true_and]
theorem gT{n:Nat}{f g:Nat→Bool}(h:∀p,p < n→f p=g p):(List.range n).filter f=(List.range n).filter g:=
 List.filter_congr fun p hp=>h p (List.mem_range.mp hp)
theorem ei(s:Km440.Ship):s.here.length=(s.persons.map eO).count 0:=by
 unfold Km440.Ship.here;rw[gT (g:=fun p=>(fun x:Km440.Person=>!x.gone&&!x.ashore) (s.persons.getD p ⟨0,none,false,0,none,true⟩)) fun p hp=>by rw[al hp];rfl];refine(wQ (⟨0,none,false,0,none,true⟩:Km440.Person) (fun x:Km440.Person=>!x.gone&&!x.ashore) s.persons).trans ?_;rw[List.count,List.countP_map,List.countP_eq_length_filter];congr 1;refine List.filter_congr fun x _=>?_;unfold eO Function.comp;cases hg:x.gone <;> cases ha:x.ashore <;> simp[hg,ha]
theorem En(s:Km440.Ship):s.away.length=(s.persons.map eO).count 1:=by
 unfold Km440.Ship.away;rw[gT (g:=fun p=>(fun x:Km440.Person=>!x.gone&&x.ashore) (s.persons.getD p ⟨0,none,false,0,none,true⟩)) fun p hp=>by rw[al hp];rfl];refine(wQ (⟨0,none,false,0,none,true⟩:Km440.Person) (fun x:Km440.Person=>!x.gone&&x.ashore) s.persons).trans ?_;rw[List.count,List.countP_map,List.countP_eq_length_filter];congr 1;refine List.filter_congr fun x _=>?_;unfold eO Function.comp;cases hg:x.gone <;> cases ha:x.ashore <;> simp[hg,ha]
def D0(s:Km440.Ship):Prop:=∀x∈s.persons,x.visitor=none
theorem J5{s:Km440.Ship}(h:D0 s)(p:Nat):(s.person p).visitor=none:=by
 unfold Km440.Ship.person;rw[List.getD_eq_getElem?_getD]
 cases e:s.persons[p]? with
 |none=>rfl
 |some x=>exact h x (List.mem_of_getElem? e)
theorem L5{s:Km440.Ship}(h:D0 s):s.missing=s.away:=by
 unfold Km440.Ship.missing;refine List.filter_eq_self.mpr fun p _=>?_;rw[J5 h p];rfl
theorem ln{s:Km440.Ship}(h:D0 s):s.visitors=[]:=by
 unfold Km440.Ship.visitors;refine List.filter_eq_nil_iff.mpr fun p _=>?_;rw[J5 h p];simp
theorem vv{s:Km440.Ship}(h:D0 s){g:Km440.Gate}(hg:s.gates=[g]):s.maySail=(decide ((s.persons.map eO).count 1=0)&&!g.open_):=by
 unfold Km440.Ship.maySail;rw[L5 h,ln h,hg];simp only[List.all_cons,List.all_nil,Bool.and_true];have e:(s.away==[])=decide ((s.persons.map eO).count 1=0):=by
  rw[←En]
  cases s.away with
  |nil=>rfl
  |cons a l=>simp
 rw[e];cases g.open_ <;> simp
end CS
namespace CS
open Km443
structure pO(W:Way)(T:eP)(S:gC)(m:Machine):Prop where
 last:W.last=m.stores.last
 hour:W.hour=m.water.hour
 fC:W.fC=m.late
 legs:W.legs=m.water.legs.map fR
 today:m.stores.today=m.water.hour / 24
 tanks:uV T m.water
 uses:m.water.uses≤80
 room:S.room=m.stores.room
 goods:S.goods=m.stores.goods.map eD
 lots:∀g∈m.stores.goods,EX g m.stores.today
 HB:m.water.legs.length≤10
 rQ:m.stores.goods.length≤6
 end_:m.water.hour≤24*(m.stores.last+1)
 pos:∀x∈m.water.legs,1≤x.hours
 tE:m.stores.last≤60
theorem pO.tH{W:Way}{T:eP}{S:gC}{m:Machine}(h:pO W T S m)(n:Nat):CS.tH W n=fR (m.water.leg n):=S3 h.legs n
theorem pO.miles{W:Way}{T:eP}{S:gC}{m:Machine}(h:pO W T S m)(n:Nat):eH W n=((m.water.leg n).miles:Nat):=by unfold eH;rw[h.tH];rfl
theorem pO.knots{W:Way}{T:eP}{S:gC}{m:Machine}(h:pO W T S m)(n:Nat):eR W n=((m.water.leg n).knots:Nat):=by unfold eR;rw[h.tH];rfl
theorem pO.sea{W:Way}{T:eP}{S:gC}{m:Machine}(h:pO W T S m):gP W=!m.inPort:=by
 unfold gP Machine.inPort;rw[h.hour,h.miles]
 by_cases c:(m.water.leg m.water.hour).miles=0
 ·rw[c];simp
 ·have e:((m.water.leg m.water.hour).miles==0)=false:=beq_eq_false_iff_ne.mpr c;rw[e,decide_eq_true (by omega)];rfl
theorem pO.leaving{W:Way}{T:eP}{S:gC}{m:Machine}(h:pO W T S m):kG W=m.leaves:=by
 unfold kG Machine.leaves;rw[h.sea,Bool.not_not];congr 1;have e:W.hour+1=((m.water.hour+1:Nat):Int):=by rw[h.hour];push_cast;rfl
 rw[e,h.miles]
 by_cases c:(m.water.leg (m.water.hour+1)).miles=0
 ·rw[c];simp
 ·rw[bne_iff_ne.mpr c,decide_eq_true (by omega)]
theorem N1{α β:Type}(d:α)(f:α→β)(l:List α):(List.range l.length).map (fun g=>f (l.getD g d))=l.map f:=by
 refine List.ext_getElem (by simp) fun i h1 h2=>?_;simp only[List.getElem_map,List.getElem_range];congr 1;have :i < l.length:=by simpa using h2
 rw[List.getD_eq_getElem?_getD,List.getElem?_eq_getElem this];rfl
theorem F8:∀(ls:List Km442.Leg) (n:Nat),(longer ls n).length=ls.length
 |[],_=>rfl
 |x::l,n=>by
  unfold longer
  split
  ·rfl
  ·rw[List.length_cons,List.length_cons,F8 l]
theorem C3:∀(ls:List Km442.Leg) (n:Nat),(∀x∈ls,1≤x.hours)→∀x∈longer ls n,1≤x.hours
 |[],_,_,x,hx=>by cases hx
 |y::l,n,h,x,hx=>by
  unfold longer at hx
  split at hx
  ·rcases List.mem_cons.mp hx with q |q
   ·rw[q];show 1≤y.hours+1;omega
   ·exact h x (List.mem_cons_of_mem _ q)
  ·rcases List.mem_cons.mp hx with q |q
   ·rw[q];exact h y List.mem_cons_self
   ·exact C3 l (n - y.hours) (fun z hz=>h z (List.mem_cons_of_mem _ hz)) x q
theorem Fy{V:aU}{m:Machine}(h:pO V.way V.tanks V.stores m){n:Nat}(hn:m.aboard=n)(hc:cB V.aF=n)(hm:lA V.aF=m.gang.maySail)(hle:n≤16)(he:m.water.hour < 24*(m.stores.last+1)):
  pO (eS V).1.way (eS V).1.tanks (eS V).1.stores m.hourly∧(eS V).1.aF=V.aF∧(eS V).2=((m.hourly.water.lacked - m.water.lacked:Nat):Int)∧m.water.lacked≤m.hourly.water.lacked:=by
 generalize hst:(m.leaves&&!m.gang.maySail)=st;have hst':(kG V.way&&!lA V.aF)=st:=by rw[h.leaving,hm];exact hst
 let a:Km442.Ship:=if st=true then { m.tanks with legs:=longer m.tanks.legs m.tanks.hour } else m.tanks
 let W:Way:=if st=true then jN V.way else V.way
 have haT:a.persons=n∧a.uses=m.water.uses∧a.hour=m.water.hour:=by
  show(if st=true then { m.tanks with legs:=longer m.tanks.legs m.tanks.hour } else m.tanks).persons=n∧_∧_
  cases st <;> exact⟨hn,rfl,rfl⟩
 have hT:uV V.tanks a:=by
  have t:=h.tanks
  show uV V.tanks (if st=true then { m.tanks with legs:=longer m.tanks.legs m.tanks.hour } else m.tanks)
  cases st <;> exact⟨t.uses,t.fm,t.makes,t.gm,t.bm,t.fresh,t.grey,t.black,t.making,t.gg,t.bg,t.made,t.used,t.ggo,t.bgo,t.fl,t.gl,t.bl⟩
 have hleave:st=true→m.leaves=true:=fun e=>by rw[←hst,Bool.and_eq_true] at e;exact e.1
 have hW:W.last=m.stores.last∧W.hour=m.water.hour∧W.fC=((m.late+(if st=true then 1 else 0):Nat):Int)∧W.legs=a.legs.map fR:=by
  cases e:st with
  |false=>
   have ew:W=V.way:=by show(if st=true then jN V.way else V.way)=V.way;rw[e];rfl
   have ea:a=m.tanks:=by show(if st=true then _ else m.tanks)=m.tanks;rw[e];rfl
   rw[ew,ea];exact⟨h.last,h.hour,by rw[h.fC];simp,h.legs⟩
  |true=>
   have ew:W=jN V.way:=by show(if st=true then jN V.way else V.way)=_;rw[e];rfl
   have ea:a.legs=longer m.water.legs m.water.hour:=by show(if st=true then { m.tanks with legs:=longer m.tanks.legs m.tanks.hour } else m.tanks).legs=_;rw[e];rfl
   rw[ew,ea];have hix:∃k,eM (m.water.legs.map fR) (m.water.hour:Nat)=some k:=by
    cases q:eM (m.water.legs.map fR) (m.water.hour:Nat) with
    |some k=>exact⟨k,rfl⟩
    |none=>
     exfalso;have hl:=hleave e;unfold Machine.leaves at hl;rw[Bool.and_eq_true] at hl;have h2:=bne_iff_ne.mp hl.2;refine h2 ?_;have beyond:∀(ls:List Km442.Leg) (t:Nat),eM (ls.map fR) t=none→Km442.legAt ls (t+1)=⟨0,0,0⟩:=by
      intro ls
      induction ls with
      |nil=>intro t _;rfl
      |cons x l ih=>
       intro t ht;simp only[List.map_cons,eM] at ht
       by_cases c:t < x.hours
       ·rw[if_pos (show((t:Nat):Int) < (fR x).hours by show(t:Int) < (x.hours:Int);omega)] at ht;cases ht
       ·rw[if_neg (show ¬((t:Nat):Int) < (fR x).hours by show ¬(t:Int) < (x.hours:Int);omega)] at ht;have e3:((t:Nat):Int) - (fR x).hours=((t - x.hours:Nat):Int):=by show(t:Int) - (x.hours:Int)=_;omega
        rw[e3] at ht;have h':eM (l.map fR) ((t - x.hours:Nat):Int)=none:=by
         cases q2:eM (l.map fR) ((t - x.hours:Nat):Int) with
         |none=>rfl
         |some k=>rw[q2] at ht;cases ht
        have:=ih (t - x.hours) h';unfold Km442.legAt;rw[if_neg (show ¬t+1 < x.hours by omega),show t+1 - x.hours=(t - x.hours)+1 by omega];exact this
     show(Km442.legAt m.water.legs (m.water.hour+1)).miles=0;rw[beyond _ _ q]
   obtain⟨k,hk⟩:=hix;have hk':eM V.way.legs V.way.hour=some k:=by rw[h.legs,h.hour];exact hk
   have es:jN V.way={ V.way with legs:=V.way.legs.set k ⟨(V.way.legs.getD k ⟨0,0,0⟩).hours+1,(V.way.legs.getD k ⟨0,0,0⟩).miles,(V.way.legs.getD k ⟨0,0,0⟩).knots⟩,fC:=V.way.fC+1 }:=by
    unfold jN;rw[hk']
   rw[es];refine⟨h.last,h.hour,?_,?_⟩
   ·show V.way.fC+1=_;rw[h.fC];simp
   ·show V.way.legs.set k _=_;rw[h.legs];exact K1 _ _ _ hk
 obtain⟨w1,w2,w3,w4⟩:=hW;have hal:a.legs.length≤10:=by
  have hq:=h.HB
  show(if st=true then { m.tanks with legs:=longer m.tanks.legs m.tanks.hour } else m.tanks).legs.length≤10
  cases st
  ·exact hq
  ·show(longer m.tanks.legs m.tanks.hour).length≤10;rw[F8];exact hq
 have hap:∀x∈a.legs,1≤x.hours:=by
  have hq:=h.pos
  show ∀x∈(if st=true then { m.tanks with legs:=longer m.tanks.legs m.tanks.hour } else m.tanks).legs,_
  cases st
  ·exact hq
  ·show ∀x∈longer m.tanks.legs m.tanks.hour,_;exact C3 _ _ hq
 have hleg:CS.tH W W.hour=fR (a.leg a.hour):=by
  have:=S3 w4 a.hour;rw[w2];rw[haT.2.2] at this ⊢;exact this
 have hmiles:eH W W.hour=((a.leg a.hour).miles:Nat):=by unfold eH;rw[hleg];rfl
 have hknots:eR W W.hour=((a.leg a.hour).knots:Nat):=by unfold eR;rw[hleg];rfl
 have hwant:a.wants < 2 ^ 64:=by
  unfold Km442.Ship.wants;rw[haT.1,haT.2.1];have h1:=h.uses;have :n*m.water.uses≤16*80:=Nat.mul_le_mul hle h1;omega
 obtain⟨t1,t2,t3⟩:=R6 hT (x:=a.leg a.hour) rfl haT.1 hwant;have hlack:a.lacked=m.water.lacked:=by
  show(if st=true then { m.tanks with legs:=longer m.tanks.legs m.tanks.hour } else m.tanks).lacked=_
  cases st <;> rfl
 have hH:m.hourly={ m with water:=a.hourly,gang:={ m.gang with time:=m.gang.time+60 },muster:={ m.muster with minute:=m.muster.minute+60 },stores:=if (m.water.hour+1) % 24=0 then m.larder.day else m.stores,late:=m.late+(if st=true then 1 else 0) }:=by
  unfold Machine.hourly;simp only[hst];rfl
 have hlastA:∀s:Km442.Ship,s.hourly.hour=s.hour+1∧s.hourly.legs=s.legs∧s.hourly.uses=s.uses:=fun s=>⟨rfl,rfl,rfl⟩
 have hP:eS V=({ V with way:={ W with hour:=W.hour+1 },tanks:=iU V.tanks (eH W W.hour) (eR W W.hour) n,stores:=if (W.hour+1) % 24=0 then GH V.stores n (CS.today { W with hour:=W.hour+1 }) else V.stores },mJ V.tanks (eH W W.hour) (eR W W.hour) n):=by
  unfold eS;rw[hst',hc]
 rw[hP,hmiles,hknots];have hday:(W.hour+1) % 24=(((m.water.hour+1) % 24:Nat):Int):=by rw[w2];omega
 have htoday:CS.today { W with hour:=W.hour+1 }=(((m.water.hour+1) / 24:Nat):Int):=by
  show(W.hour+1) / 24=_;rw[w2];omega
 refine⟨?_,rfl,?_,?_⟩
 ·rw[hH];have ht24:m.stores.today=m.water.hour / 24:=h.today
  by_cases c:(m.water.hour+1) % 24=0
  ·have c':(W.hour+1) % 24=0:=by rw[hday,c];rfl
   simp only[if_pos c,if_pos c'];have hneed:∀g,m.larder.need g m.stores.today=n*(m.stores.good g).per:=by
    intro g;unfold Km438.Ship.need;have hp:m.larder.persons=List.replicate (m.stores.last+1) m.aboard:=rfl;rw[hp,hn,List.getD_eq_getElem?_getD,List.getElem?_replicate,if_pos (by rw[ht24];omega)];rfl
   have hgoods:m.larder.day.goods=m.stores.goods.map fun g=>g.day (n*g.per) m.stores.today:=by
    show(List.range m.stores.goods.length).map (fun g=>(m.larder.good g).day (m.larder.need g m.stores.today) m.stores.today)=_;have e1:∀g,(m.larder.good g).day (m.larder.need g m.stores.today) m.stores.today=(fun x:Km438.Good=>x.day (n*x.per) m.stores.today) (m.stores.goods.getD g ⟨0,0,[],0,0,0,0,0⟩):=fun g=>by rw[hneed];rfl
    rw[show(fun g=>(m.larder.good g).day (m.larder.need g m.stores.today) m.stores.today)=fun g=>(fun x:Km438.Good=>x.day (n*x.per) m.stores.today) (m.stores.goods.getD g ⟨0,0,[],0,0,0,0,0⟩) from funext e1];exact N1 (⟨0,0,[],0,0,0,0,0⟩:Km438.Good) (fun x:Km438.Good=>x.day (n*x.per) m.stores.today) m.stores.goods
   refine⟨w1,?_,w3,?_,?_,t1,?_,h.room,?_,?_,hal,?_,?_,hap,h.tE⟩
   ·show W.hour+1=((a.hour+1:Nat):Int);rw[w2,haT.2.2];push_cast;rfl
   ·show W.legs=(a.legs).map fR;exact w4
   ·show m.stores.today+1=(a.hour+1) / 24;rw[haT.2.2,ht24];omega
   ·show a.uses≤80;rw[haT.2.1];exact h.uses
   ·show(GH V.stores n (CS.today { W with hour:=W.hour+1 })).goods=m.larder.day.goods.map eD
    rw[hgoods,htoday];unfold GH;simp only[];rw[h.goods,List.map_map,List.map_map];refine List.map_congr_left fun g hg=>?_;have:=(Q8 g (n*g.per) m.stores.today (h.lots g hg).pos).1;show pK (eat (eD g) ((eD g).per*(n:Int))) _=eD _;rw[←this];have e1:(eD g).per*(n:Int)=((n*g.per:Nat):Int):=by show(g.per:Int)*(n:Int)=_;push_cast;exact Int.mul_comm _ _
    have e2:(((m.water.hour+1) / 24:Nat):Int)=((m.stores.today+1:Nat):Int):=by rw[ht24];omega
    rw[e1,e2]
   ·show ∀g∈m.larder.day.goods,EX g (m.stores.today+1);rw[hgoods];intro g hg;obtain⟨x,hx,rfl⟩:=List.mem_map.mp hg;exact(h.lots x hx).day _
   ·show m.larder.day.goods.length≤6;rw[hgoods,List.length_map];exact h.rQ
   ·show a.hour+1≤24*(m.stores.last+1);rw[haT.2.2];omega
  ·have c':¬(W.hour+1) % 24=0:=by rw[hday];omega
   simp only[if_neg c,if_neg c'];refine⟨w1,?_,w3,?_,?_,t1,?_,h.room,h.goods,h.lots,hal,h.rQ,?_,hap,h.tE⟩
   ·show W.hour+1=((a.hour+1:Nat):Int);rw[w2,haT.2.2];push_cast;rfl
   ·show W.legs=(a.legs).map fR;exact w4
   ·show m.stores.today=(a.hour+1) / 24;rw[haT.2.2,ht24];omega
   ·show a.uses≤80;rw[haT.2.1];exact h.uses
   ·show a.hour+1≤24*(m.stores.last+1);rw[haT.2.2];omega
 ·rw[t2,hH,hlack]
 ·rw[hH];show m.water.lacked≤a.hourly.lacked;rw[←hlack];exact t3
end CS
namespace CSL
open Km438
abbrev Pos:=CS.Pos
def dT:List Nat→Nat→Lots→List (Nat×Nat)
 |[],_,_=>[]
 |n::r,t,l=>(t,(eat n (fresh_ l t)).2)::dT r (t+1) (eat n (fresh_ l t)).1
def pJ(E x:Nat):Lots:=if x=0 then [] else [(E,x)]
theorem V9{l:Lots}(h:Pos l)(t:Nat):Pos (fresh_ l t):=fun y hy=>h y (List.mem_filter.mp hy).1
theorem ez:∀(l:Lots) (n:Nat),(eat n l).2≠0→(eat n l).1=[]
 |[],n,_=>rfl
 |(e,a)::l,n,h=>by
  unfold eat at h ⊢
  by_cases c:a≤n
  ·rw[if_pos c] at h ⊢;exact ez l _ h
  ·rw[if_neg c] at h;exact absurd rfl h
theorem N8:∀(l:Lots) (n E x:Nat),Pos l→eat n (l++pJ E x)=((eat n l).1++pJ E (x - (eat n l).2),(eat n l).2 - x)
 |[],n,E,x,_=>by
  unfold pJ
  by_cases hx:x=0
  ·subst hx;simp[eat]
  ·rw[if_neg hx];show eat n [(E,x)]=_;unfold eat
   by_cases c:x≤n
   ·rw[if_pos c];simp only[eat,List.nil_append];rw[if_pos (by omega)]
   ·rw[if_neg c];simp only[List.nil_append];rw[if_neg (by omega)];congr 1;omega
 |(e,a)::l,n,E,x,h=>by
  have hl:Pos l:=fun y hy=>h y (List.mem_cons_of_mem _ hy);have ih:=N8 l (n - a) E x hl;rw[List.cons_append];unfold eat
  by_cases c:a≤n
  ·rw[if_pos c,if_pos c];exact ih
  ·rw[if_neg c,if_neg c];simp
theorem YU(l:Lots)(t E x:Nat):fresh_ (l++pJ E x) t=fresh_ l t++(if t≤E then pJ E x else []):=by
 unfold fresh_ pJ;rw[List.filter_append];congr 1
 by_cases hx:x=0
 ·rw[if_pos hx];simp
 ·rw[if_neg hx]
  by_cases c:t≤E <;> simp[c]
def rG(E:Nat):List (Nat×Nat)→Nat→Bool
 |[],_=>true
 |(t,s)::r,x=>if t≤E then decide (s≤x)&&rG E r (x - s) else s==0&&rG E r x
theorem B4(E:Nat):∀(ds:List (Nat×Nat)) (x:Nat),(∀d∈ds,E < d.1)→rG E ds x=ds.all fun d=>d.2==0
 |[],_,_=>rfl
 |(t,s)::r,x,h=>by
  unfold rG;have ht:¬t≤E:=by have :E < t:=h (t,s) List.mem_cons_self;omega
  rw[if_neg ht,B4 E r x fun d hd=>h d (List.mem_cons_of_mem _ hd)];rfl
theorem KN:∀(ns:List Nat) (t:Nat) (l:Lots),∀d∈dT ns t l,t≤d.1
 |[],_,_,d,h=>by cases h
 |n::r,t,l,d,h=>by
  rcases List.mem_cons.mp h with e |h
  ·rw[e];exact Nat.le_refl _
  ·have:=KN r (t+1) _ d h;omega
theorem uQ:∀(ns:List Nat) (t:Nat) (l:Lots),(firstLack ns t l).isNone=(dT ns t l).all fun d=>d.2==0
 |[],_,_=>rfl
 |n::r,t,l=>by
  unfold firstLack dT;simp only[List.all_cons]
  by_cases c:(eat n (fresh_ l t)).2=0
  ·rw[if_pos c,uQ r,c];simp
  ·rw[if_neg c];have e:((eat n (fresh_ l t)).2==0)=false:=beq_eq_false_iff_ne.mpr c;rw[e];simp
theorem j4(E:Nat):∀(ns:List Nat) (t x:Nat) (l:Lots),E < t→dT ns t (l++pJ E x)=dT ns t l
 |[],_,_,_,_=>rfl
 |n::r,t,x,l,h=>by
  unfold dT;rw[YU,if_neg (by omega),List.append_nil]
theorem wF(E:Nat):∀(ns:List Nat) (t x:Nat) (l:Lots),Pos l→(firstLack ns t (l++pJ E x)).isNone=rG E (dT ns t l) x
 |[],_,_,_,_=>rfl
 |n::r,t,x,l,h=>by
  have hp:=V9 h t;obtain⟨_,hp2,_⟩:=CS.ZE (fresh_ l t) n hp
  by_cases c:t≤E
  ·unfold firstLack dT rG;rw[YU,if_pos c,if_pos c];simp only[];rw[N8 _ n E x hp];simp only[]
   by_cases q:(eat n (fresh_ l t)).2≤x
   ·rw[if_pos (by omega),wF E r (t+1) _ _ hp2,decide_eq_true q,Bool.true_and]
   ·rw[if_neg (by omega),decide_eq_false q];rfl
  ·rw[uQ,j4 E _ t x l (by omega)];rw[B4 E _ x fun d hd=>by have:=KN (n::r) t l d hd;omega]
def fQ(ds:List (Nat×Nat)):Nat:=(ds.map (·.2)).sum
def mK(E:Nat)(ds:List (Nat×Nat)):Bool:=ds.any fun d=>decide (E < d.1)&&d.2 != 0
theorem fg(E:Nat):∀(ds:List (Nat×Nat)) (x:Nat),rG E ds x=(!mK E ds&&decide (((ds.filter fun d=>decide (d.1≤E)).map (·.2)).sum≤x))
 |[],x=>by simp[rG,mK]
 |(t,s)::r,x=>by
  unfold rG;have ih:=fg E r;have et:mK E ((t,s)::r)=((decide (E < t)&&s != 0)||mK E r):=rfl;rw[et]
  by_cases c:t≤E
  ·rw[if_pos c,ih,decide_eq_false (show ¬E < t by omega),List.filter_cons,if_pos (by simpa using c)];simp only[Bool.false_and,Bool.false_or,List.map_cons,List.sum_cons];generalize (List.map (fun x=>x.2) (List.filter (fun d=>decide (d.1≤E)) r)).sum=S
   by_cases q:s≤x
   ·rw[decide_eq_true q,Bool.true_and];congr 1
    by_cases q2:S≤x - s
    ·rw[decide_eq_true q2,decide_eq_true (by omega)]
    ·rw[decide_eq_false q2,decide_eq_false (by omega)]
   ·rw[decide_eq_false q,decide_eq_false (show ¬s+S≤x by omega)];simp
  ·rw[if_neg c,ih,decide_eq_true (show E < t by omega),List.filter_cons,if_neg (by simpa using c)];cases hs:(s==0)
   ·have :(s != 0)=true:=by simp[bne,hs]
    rw[this];simp
   ·have :(s != 0)=false:=by simp[bne,hs]
    rw[this];simp
theorem nI{E:Nat}:∀{ds:List (Nat×Nat)},mK E ds=false→((ds.filter fun d=>decide (d.1≤E)).map (·.2)).sum=fQ ds
 |[],_=>rfl
 |(t,s)::r,h=>by
  have et:mK E ((t,s)::r)=((decide (E < t)&&s != 0)||mK E r):=rfl;rw[et,Bool.or_eq_false_iff] at h;have ih:=nI h.2;have es:fQ ((t,s)::r)=s+fQ r:=rfl;rw[es,List.filter_cons]
  by_cases c:t≤E
  ·rw[if_pos (by simpa using c)];simp only[List.map_cons,List.sum_cons];rw[ih]
  ·rw[if_neg (by simpa using c),ih];have h1:=h.1;rw[decide_eq_true (show E < t by omega),Bool.true_and] at h1;have :s=0:=by simpa [bne] using h1
   omega
theorem EF(p:Nat→Bool)(b:Nat)(hp:∀n,p n=decide (b≤n)):∀(f lo hi:Nat),lo≤b→b≤hi→hi - lo < 2 ^ f→search p f lo hi=b
 |0,lo,hi,h1,h2,h3=>by
  unfold search;have :hi - lo < 1:=h3;omega
 |f+1,lo,hi,h1,h2,h3=>by
  unfold search;rw[Nat.pow_succ] at h3
  by_cases c:hi≤lo
  ·rw[if_pos c];omega
  ·rw[if_neg c,hp]
   by_cases q:b≤(lo+hi) / 2
   ·rw[decide_eq_true q,if_pos rfl];exact EF p b hp f lo _ h1 q (by omega)
   ·rw[decide_eq_false q,if_neg Bool.false_ne_true];exact EF p b hp f _ hi (by omega) h2 (by omega)
def sub(E:Nat):List (Nat×Nat)→Nat→List (Nat×Nat)
 |[],_=>[]
 |(t,s)::r,a=>if t≤E then(t,s - a)::sub E r (a - s) else(t,s)::sub E r a
theorem gv(E:Nat):∀(ds:List (Nat×Nat)) (a:Nat),(∀d∈ds,E < d.1)→sub E ds a=ds
 |[],_,_=>rfl
 |(t,s)::r,a,h=>by
  unfold sub;have :E < t:=h (t,s) List.mem_cons_self;rw[if_neg (by omega),gv E r a fun d hd=>h d (List.mem_cons_of_mem _ hd)]
theorem B2(E:Nat):∀(ns:List Nat) (t a:Nat) (l:Lots),Pos l→dT ns t (l++pJ E a)=sub E (dT ns t l) a
 |[],_,_,_,_=>rfl
 |n::r,t,a,l,h=>by
  have hp:=V9 h t;obtain⟨_,hp2,_⟩:=CS.ZE (fresh_ l t) n hp
  by_cases c:t≤E
  ·unfold dT sub;rw[YU,if_pos c,if_pos c,N8 _ n E a hp];simp only[];rw[B2 E r (t+1) _ _ hp2]
  ·rw[j4 E _ t a l (by omega),gv E _ a fun d hd=>by have:=KN (n::r) t l d hd;omega]
theorem VX(E:Nat):∀(ds:List (Nat×Nat)) (a x:Nat),rG E (sub E ds a) x=rG E ds (a+x)
 |[],_,_=>rfl
 |(t,s)::r,a,x=>by
  unfold sub
  by_cases c:t≤E
  ·rw[if_pos c];unfold rG;rw[if_pos c,if_pos c,VX E r]
   by_cases q:s≤a+x
   ·rw[decide_eq_true q,decide_eq_true (show s - a≤x by omega),show a - s+(x - (s - a))=a+x - s by omega]
   ·rw[decide_eq_false q,decide_eq_false (show ¬s - a≤x by omega)];rfl
  ·rw[if_neg c];unfold rG;rw[if_neg c,if_neg c,VX E r]
theorem cg(s:Ship)(g n:Nat)(hp:Pos (s.good g).lots):
  s.enough g n=rG (s.today+(s.good g).life) (dT (s.needs g s.today s.next) s.today (s.good g).lots) n:=by
 unfold Ship.enough;generalize s.needs g s.today s.next=ns;generalize s.good g=G at hp;generalize s.today=t;unfold Good.with_
 by_cases hn:n=0
 ·subst hn;rw[if_pos rfl];have:=wF (t+G.life) ns t 0 G.lots hp;unfold pJ at this;rw[if_pos rfl,List.append_nil] at this;exact this
 ·rw[if_neg hn];have el:pJ (t+G.life) n=[(t+G.life,n)]:=by unfold pJ;rw[if_neg hn]
  cases e:G.lots.getLast? with
  |none=>
   have e0:G.lots=[]:=List.getLast?_eq_none_iff.mp e;have:=wF (t+G.life) ns t n G.lots hp;rw[el] at this;rw[←this,e0];rfl
  |some x=>
   simp only[]
   by_cases hx:x.1=t+G.life
   ·rw[if_pos hx];obtain⟨l0,h0⟩:∃l0,G.lots=l0++[x]:=by
     obtain⟨l0,h⟩:=List.getLast?_eq_some_iff.mp e;exact⟨l0,h⟩
    have hx2:0 < x.2:=hp x (by rw[h0];simp);have hp0:Pos l0:=fun y hy=>hp y (by rw[h0];exact List.mem_append_left _ hy);have ex:[x]=pJ (t+G.life) x.2:=by
     unfold pJ;rw[if_neg (by omega),←hx]
    have ed:G.lots.dropLast=l0:=by rw[h0];simp
    rw[ed,h0,ex,B2 _ _ _ _ _ hp0,VX];have:=wF (t+G.life) ns t (x.2+n) l0 hp0;rw[←this];unfold pJ;rw[if_neg (by omega),hx]
   ·rw[if_neg hx];have:=wF (t+G.life) ns t n G.lots hp;rw[el] at this;exact this
theorem D5:∀(ns:List Nat) (t:Nat) (l:Lots),fQ (dT ns t l)≤ns.sum
 |[],_,_=>Nat.le_refl _
 |n::r,t,l=>by
  have h1:=D5 r (t+1) (eat n (fresh_ l t)).1;have h2:∀(l:Lots) (n:Nat),(eat n l).2≤n:=by
   intro l
   induction l with
   |nil=>intro n;exact Nat.le_refl _
   |cons x l ih=>
    intro n;obtain⟨e,a⟩:=x;unfold eat
    by_cases c:a≤n
    ·rw[if_pos c];have:=ih (n - a);omega
    ·rw[if_neg c];exact Nat.zero_le _
  have h3:=h2 (fresh_ l t) n;show(eat n (fresh_ l t)).2+fQ (dT r (t+1) (eat n (fresh_ l t)).1)≤(n::r).sum;rw[List.sum_cons];omega
theorem Fb(s:Ship)(g:Nat)(hp:Pos (s.good g).lots)(hz:(s.needs g s.today s.next).sum < 2 ^ 64):
  s.least g=if mK (s.today+(s.good g).life) (dT (s.needs g s.today s.next) s.today (s.good g).lots)=true then none
   else some (fQ (dT (s.needs g s.today s.next) s.today (s.good g).lots)):=by
 unfold Ship.least;have hs:sum (s.needs g s.today s.next)=(s.needs g s.today s.next).sum:=by unfold sum;rw[CS.mU];omega
 rw[hs];have he:∀n,s.enough g n=_:=fun n=>(cg s g n hp).trans (fg _ _ n);rw[he]
 cases c:mK (s.today+(s.good g).life) (dT (s.needs g s.today s.next) s.today (s.good g).lots) with
 |true=>simp
 |false=>
  have hl:=D5 (s.needs g s.today s.next) s.today (s.good g).lots;rw[nI c,decide_eq_true hl];simp only[Bool.not_false,Bool.true_and,if_true,Bool.false_eq_true,if_false];congr 1;refine EF _ _ (fun n=>?_) 64 0 _ (Nat.zero_le _) hl (by omega);rw[he n,c,nI c];rfl
theorem vy(s:Ship)(g:Nat)(hp:Pos (s.good g).lots):s.enough g 0=decide (fQ (dT (s.needs g s.today s.next) s.today (s.good g).lots)=0):=by
 unfold Ship.enough Good.with_;rw[if_pos rfl,uQ];generalize dT (s.needs g s.today s.next) s.today (s.good g).lots=ds
 induction ds with
 |nil=>rfl
 |cons d r ih=>
  show((d.2==0)&&r.all fun d=>d.2==0)=decide (d.2+fQ r=0);rw[ih]
  by_cases c:d.2=0
  ·rw[c];simp
  ·have :(d.2==0)=false:=beq_eq_false_iff_ne.mpr c;rw[this,decide_eq_false (show ¬d.2+fQ r=0 by omega)];rfl
end CSL
namespace CSB
open Km437
def uE(s:Ship)(p:Party)(r:Option Nat)(k:Nat):Option Nat:=if does (s.cabin k) p=false then r else match r with
 |none=>some k
 |some j=>if better (s.cabin k) (s.cabin j)=true then some k else some j
def nN(s:Ship)(p:Party):Option Nat:=s.frees.foldl (uE s p) none
theorem K3(n:Nat)(f:Nat→Bool)(h:f n=false):(List.range (n+1)).find? f=(List.range n).find? f:=by
 rw[List.range_succ,List.find?_append]
 cases (List.range n).find? f with
 |some x=>rfl
 |none=>simp[h]
section
variable(s:Ship)(P:Party)
abbrev mE:Ship:={ s with parties:=s.parties++[P] }
theorem js{p:Nat}(h:p < s.parties.length):(mE s P).party p=s.party p:=by
 unfold Ship.party;rw[List.getD_eq_getElem?_getD,List.getD_eq_getElem?_getD];show((s.parties++[P])[p]?).getD _=_;rw[List.getElem?_append_left h]
theorem mO:(mE s P).party s.parties.length=P:=by
 unfold Ship.party;rw[List.getD_eq_getElem?_getD];show((s.parties++[P])[s.parties.length]?).getD _=_;simp
theorem sd:(mE s P).parties.length=s.parties.length+1:=by simp
theorem find_congr'{n:Nat}{f g:Nat→Bool}(h:∀p,p < n→f p=g p):(List.range n).find? f=(List.range n).find? g:=by
 have :∀l:List Nat,(∀p∈l,f p=g p)→l.find? f=l.find? g:=by
  intro l
  induction l with
  |nil=>intro _;rfl
  |cons a l ih=>
   intro hl;rw[List.find?_cons,List.find?_cons,hl a List.mem_cons_self,ih fun p hp=>hl p (List.mem_cons_of_mem _ hp)]
 exact this _ fun p hp=>h p (List.mem_range.mp hp)
theorem filter_congr'{n:Nat}{f g:Nat→Bool}(h:∀p,p < n→f p=g p):(List.range n).filter f=(List.range n).filter g:=
 List.filter_congr fun p hp=>h p (List.mem_range.mp hp)
theorem Hj(hP:P.cabin=none)(k:Nat):(mE s P).who k=s.who k:=by
 unfold Ship.who;rw[sd,K3 _ _ (by rw[mO,hP];rfl)];exact find_congr' fun p hp=>by rw[js s P hp]
theorem Cj(hP:P.cabin=none):(mE s P).frees=s.frees:=by
 unfold Ship.frees;refine filter_congr' fun k hk=>?_;unfold Ship.free;rw[Hj s P hP]
theorem Bk(hP:P.cabin=none)(hg:P.gone=false)(hw:s.waits=[]):(mE s P).waits=[s.parties.length]:=by
 unfold Ship.waits;rw[sd,List.range_succ,List.filter_append];have e:(List.range s.parties.length).filter (fun p=>!((mE s P).party p).gone&&((mE s P).party p).cabin.isNone)=[]:=by
  rw[filter_congr' (g:=fun p=>!(s.party p).gone&&(s.party p).cabin.isNone) fun p hp=>by rw[js s P hp]];exact hw
 rw[e,List.filter_cons,mO,hP,hg];rfl
end
theorem wo(s:Ship)(l:List Nat):s.housed [] l=0:=by unfold Ship.housed;simp
theorem wf(s:Ship)(p:Nat)(l:List Nat):s.housed [p] l≤1:=by unfold Ship.housed;simp only[List.length_cons,List.length_nil];omega
theorem Fo(s:Ship)(p:Nat)(l:List Nat):s.pick p [] l (s.housed [p] l)=l.foldl (uE s (s.party p)) none:=by
 unfold Ship.pick;have h1:=wf s p l;congr 1
 funext r k
 unfold uE;rw[wo]
 by_cases c:does (s.cabin k) (s.party p)=false
 ·rw[if_pos (Or.inl c),if_pos c]
 ·rw[if_neg (show ¬(does (s.cabin k) (s.party p)=false∨0+1 < s.housed [p] l) by intro q;rcases q with q |q;exact c q;omega),if_neg c]
  cases r <;> rfl
theorem Gf(s:Ship)(p:Nat)(l:List Nat):s.plan [p] l=match l.foldl (uE s (s.party p)) none with
  |none=>[]
  |some k=>[(p,k)]:=by
 unfold Ship.plan;rw[Fo];cases l.foldl (uE s (s.party p)) none <;> rfl
theorem Av(d:Desk)(n r f:Nat):act d (.party n r f)=if n=0∨6 < n∨3 < r∨1 < f then(d,only (-22)) else if PARTIES≤d.now.parties.length then(d,only (-28)) else(d.become { d.now with parties:=d.now.parties++[⟨n,r,f==1,none,false⟩] },only ((d.now.parties.length:Nat):Int)):=rfl
theorem Dx(d:Desk):act d .take=if d.now.waits=[] then(d,only (-6)) else(d.become ((d.now.plan d.now.waits d.now.frees).foldl (fun s x=>s.put x.1 (some x.2)) d.now),only (((d.now.plan d.now.waits d.now.frees).length:Nat):Int)):=rfl
def one(p:Nat):Option Nat→List (Nat×Nat)
 |none=>[]
 |some k=>[(p,k)]
theorem zr(m:Km443.Machine)(n c r f:Nat)(h1:¬(n=0∨6 < n∨3 < r∨1 < f))(h2:¬PARTIES≤m.cabins.parties.length)(hw:m.cabins.waits=[]):
  m.boards n c r f=match nN m.cabins ⟨n,r,f==1,none,false⟩ with
   |none=>none
   |some k=>some { m with cabins:={ m.cabins with parties:=m.cabins.parties++[⟨n,r,f==1,some k,false⟩] },gang:=Km443.addMany m.gang.persons.length c n m.gang,party:=m.party++List.replicate n m.cabins.parties.length }:=by
 have ea:(act ⟨m.cabins,[],[]⟩ (.party n r f)).1.now=mE m.cabins ⟨n,r,f==1,none,false⟩:=by
  rw[Av,if_neg h1,if_neg h2];rfl
 unfold Km443.Machine.boards;simp only[ea];generalize hP:(⟨n,r,f==1,none,false⟩:Party)=P;have hPc:P.cabin=none:=by rw[←hP]
 have hPg:P.gone=false:=by rw[←hP]
 have hwt:=Bk m.cabins P hPc hPg hw;have hfr:=Cj m.cabins P hPc;have hpl:(mE m.cabins P).plan (mE m.cabins P).waits (mE m.cabins P).frees=one m.cabins.parties.length (nN m.cabins P):=by
  rw[hwt,hfr,Gf,mO]
  show(match nN m.cabins P with
   |none=>[]
   |some k=>[(m.cabins.parties.length,k)])=_
  cases nN m.cabins P <;> rfl
 have hne:¬(mE m.cabins P).waits=[]:=by rw[hwt];simp
 have eb:act ⟨mE m.cabins P,[],[]⟩ .take=(Desk.become ⟨mE m.cabins P,[],[]⟩ ((one m.cabins.parties.length (nN m.cabins P)).foldl (fun s x=>s.put x.1 (some x.2)) (mE m.cabins P)),only (((one m.cabins.parties.length (nN m.cabins P)).length:Nat):Int)):=by
  rw[Dx,if_neg hne,hpl]
 generalize act ⟨mE m.cabins P,[],[]⟩ .take=b at eb ⊢
 cases e:nN m.cabins P with
 |none=>
  rw[e] at eb;have e2:b.2.value≤0:=by rw[eb];exact Int.le_refl 0
  rw[if_pos e2]
 |some k=>
  rw[e] at eb;have e2:¬b.2.value≤0:=by rw[eb];show ¬(1:Int)≤0;decide
  rw[if_neg e2]
  have e3:b.1.now={ m.cabins with parties:=m.cabins.parties++[⟨n,r,f==1,some k,false⟩] }:=by
   rw[eb];show Ship.put (mE m.cabins P) m.cabins.parties.length (some k)=_;unfold Ship.put;rw[mO,←hP];show({ cabins:=m.cabins.cabins,parties:=(m.cabins.parties++[_]).set m.cabins.parties.length _ }:Ship)=_;rw[List.set_append_right _ _ (Nat.le_refl _)];simp
  rw[e3]
end CSB
namespace CS
open Km443
def HX(c:Km437.Cabin):Cabin:=⟨c.deck,c.place,c.rank,c.berths,if c.flat=true then 1 else 0⟩
def qI(k:Nat):Int:=if k=0 then -1 else((k / 8:Nat):Int)
structure B0(P:Party)(q:Km437.Party)(i:Nat)(m:Machine):Prop where
 many:P.many=(q.many:Nat)
 pos:1≤q.many
 here:q.gone=false→q.cabin=some P.cabin.toNat∧0≤P.cabin
 gone:q.gone=true→q.cabin=none
 first:∃f:Nat,P.first=(f:Nat)∧f+q.many≤m.gang.persons.length∧
  (∀x,x < m.gang.persons.length→(m.party.getD x 0=i↔f≤x∧x < f+q.many))∧
  (∀x,f≤x→x < f+q.many→(m.gang.person x).gone=q.gone)∧
  (∀x y,f≤x→x < f+q.many→(m.gang.person x).with_=some y→y=f)∧(m.gang.person f).with_=none
structure dY(P:cZ)(m:Machine):Prop where
 most:P.most=(m.gang.most:Nat)
 wJ:m.gang.most≤16
 cabins:P.cabins=m.cabins.cabins.map HX
 shut:∀c∈m.cabins.cabins,c.shut=false
 DC:m.cabins.cabins.length≤12
 aM:P.aM=m.gang.persons.map eO
 QR:m.gang.persons.length≤16
 cards:m.gang.cards=m.gang.persons.length
 card:∀(i:Nat) (x:Km440.Person),m.gang.persons[i]? =some x→x.card=i∧x.visitor=none
 FY:m.party.length=m.gang.persons.length
 DP:∀x,x < m.gang.persons.length→m.party.getD x 0 < m.cabins.parties.length
 persons:P.persons=(List.range m.gang.persons.length).map fun x=>⟨(m.party.getD x 0:Nat),(m.gang.person x).with_.isSome⟩
 bR:P.bR=(List.range m.gang.persons.length).map fun x=>qI (m.muster.know x)
 seen:m.muster.seen.length=16
 pT:∀x,m.gang.persons.length≤x→m.muster.know x=0
 know:∀x,m.muster.know x=0∨∃t,t≤m.water.hour∧m.muster.know x=8*(60*t)+1
 me:m.muster.me=0
 minute:m.muster.minute=60*m.water.hour
 drill:P.drill=(m.muster.drill:Nat)
 lL:m.muster.drill≤1000
 gate:∃g:Km440.Gate,m.gang.gates=[g]∧P.gate=(if g.open_=true then 1 else 0)∧P.iH=(g.out_:Nat)∧P.jK=(g.in_:Nat)∧g.out_≤100000∧g.in_≤100000
 rung:P.eJ=(m.gang.rung:Nat)
 wW:m.gang.rung≤100000
 kR:P.parties.length=m.cabins.parties.length
 BW:m.cabins.parties.length≤8
 parties:∀(i:Nat) (p:Party) (q:Km437.Party),P.parties[i]? =some p→m.cabins.parties[i]? =some q→B0 p q i m
structure Sim(V:aU)(m:Machine):Prop where
 w:pO V.way V.tanks V.stores m
 p:dY V.aF m
 aboard:m.aboard≤m.gang.most
section
variable{V:aU}{m:Machine}
theorem dY.novis{P:cZ}(h:dY P m):D0 m.gang:=fun x hx=>by
 obtain⟨i,hi⟩:=List.getElem?_of_mem hx;exact(h.card i x hi).2
theorem dY.count{P:cZ}(h:dY P m):cB P=(m.aboard:Nat):=by
 unfold cB Machine.aboard;rw[h.aM,ei]
theorem dY.leave{P:cZ}(h:dY P m):lA P=m.gang.maySail:=by
 obtain⟨g,hg,ho,_⟩:=h.gate;rw[vv h.novis hg];unfold lA FH;rw[h.aM,ho];congr 1
 ·by_cases c:(m.gang.persons.map eO).count 1=0
  ·rw[decide_eq_true c,decide_eq_true (by omega)]
  ·rw[decide_eq_false c,decide_eq_false (by omega)]
 ·cases g.open_ <;> rfl
theorem Sim.o6(h:Sim V m):m.aboard≤16:=Nat.le_trans h.aboard h.p.wJ
theorem dY.hourly{P:cZ}(h:dY P m):dY P m.hourly:=by
 have hw:m.hourly.water.hour=m.water.hour+1:=by
  unfold Machine.hourly;simp only[]
  split <;> rfl
 refine⟨h.most,h.wJ,h.cabins,h.shut,h.DC,h.aM,h.QR,h.cards,h.card,h.FY,h.DP,h.persons,h.bR,h.seen,h.pT,fun x=>?_,h.me,?_,h.drill,h.lL,h.gate,h.rung,h.wW,h.kR,h.BW,fun i p q h1 h2=>?_⟩
 ·rcases h.know x with k |⟨t,ht,k⟩
  ·exact .inl k
  ·exact .inr ⟨t,by rw[hw];omega,k⟩
 ·show m.muster.minute+60=60*m.hourly.water.hour;rw[hw,h.minute];omega
 ·obtain⟨a,b,c,d,e⟩:=h.parties i p q h1 h2;exact⟨a,b,c,d,e⟩
theorem Sim.hourly(h:Sim V m)(he:m.water.hour < 24*(m.stores.last+1)):
  Sim (eS V).1 m.hourly∧(eS V).2=((m.hourly.water.lacked - m.water.lacked:Nat):Int)∧m.water.lacked≤m.hourly.water.lacked:=by
 obtain⟨a,b,c,d⟩:=Fy h.w (n:=m.aboard) rfl h.p.count h.p.leave h.o6 he;exact⟨⟨a,by rw[b];exact h.p.hourly,h.aboard⟩,c,d⟩
theorem ol(m:Machine):m.hourly.water.hour=m.water.hour+1∧m.hourly.stores.last=m.stores.last:=by
 refine⟨?_,?_⟩
 ·unfold Machine.hourly;simp only[]
  split <;> rfl
 ·unfold Machine.hourly;simp only[]
  split <;> rfl
theorem Sim.hours:∀(n:Nat) {V:aU} {m:Machine} (k:Int),Sim V m→m.water.hour+n≤24*(m.stores.last+1)→
  Sim (dU n V k).1 (m.go n)∧(dU n V k).2=k+(((m.go n).water.lacked - m.water.lacked:Nat):Int)∧m.water.lacked≤(m.go n).water.lacked∧(m.go n).stores.last=m.stores.last
 |0,V,m,k,h,_=>⟨h,by show k=k+((m.water.lacked - m.water.lacked:Nat):Int);omega,Nat.le_refl _,rfl⟩
 |n+1,V,m,k,h,he=>by
  obtain⟨h1,h2,h3⟩:=h.hourly (by omega);obtain⟨e1,e2⟩:=ol m;obtain⟨i1,i2,i3,i4⟩:=Sim.hours n (k+(eS V).2) h1 (by rw[e1,e2];omega);refine⟨i1,?_,Nat.le_trans h3 i3,i4.trans e2⟩;show(dU n (eS V).1 (k+(eS V).2)).2=_;rw[i2,h2];show _=k+(((m.hourly.go n).water.lacked - m.water.lacked:Nat):Int);omega
end
def told(a:Ans):List Int:=a.value::a.out.map fun(x:Nat)=>(x:Int)
def oB(d:Desk)(r:Desk×Ans)(V:aU)(x:aU×List Int):Prop:=
 (∃v:Int,v < 0∧x=(V,[v])∧r=(d,only v))∨∃(m':Machine) (a:Ans),0≤a.value∧r=(d.become m',a)∧x.2=told a∧Sim x.1 m'
theorem oB.no{d:Desk}{r:Desk×Ans}{V:aU}{x:aU×List Int}(v:Int)(hv:v < 0)(h1:x=(V,[v]))(h2:r=(d,only v)):oB d r V x:=.inl ⟨v,hv,h1,h2⟩
theorem oB.yes{d:Desk}{r:Desk×Ans}{V:aU}{x:aU×List Int}(m':Machine)(a:Ans)(hv:0≤a.value)(h1:r=(d.become m',a))(h2:x.2=told a)(h3:Sim x.1 m'):oB d r V x:=.inr ⟨m',a,hv,h1,h2,h3⟩
theorem nU(n lo hi:Nat):cJ (n:Int) lo hi=true↔n < lo∨hi < n:=by
 unfold cJ;rw[Bool.or_eq_true,decide_eq_true_iff,decide_eq_true_iff];omega
section
variable{V:aU}{d:Desk}
theorem jF{c:Km442.Call}{v:Int}(hv:v < 0)(h:(Km442.act ⟨d.now.tanks,[],[]⟩ c).2=Km442.only v):d.waters c=(d,only v):=by
 unfold Desk.waters;simp only[];rw[h,if_pos (show(Km442.only v).value < 0 from hv)];rfl
theorem BV{c:Km442.Call}{s:Km442.Ship}{v:Int}{o:List Nat}(hv:0≤v)(h:Km442.act ⟨d.now.tanks,[],[]⟩ c=(Km442.Desk.become ⟨d.now.tanks,[],[]⟩ s,⟨v,o⟩)):d.waters c=(d.become { d.now with water:=s },⟨v,o⟩):=by
 unfold Desk.waters;simp only[];rw[h,if_neg (show ¬v < 0 by omega)];rfl
theorem Bu{W:Way}{T:eP}{S:gC}{m:Machine}(h:pO W T S m):wP W=((m.water.end_:Nat):Int):=by
 unfold wP Km442.Ship.end_;rw[h.legs];exact Hr
theorem Sim.water{s:Km442.Ship}{W:Way}{T:eP}{S:gC}(h:Sim V d.now)(hw:pO W T S { d.now with water:=s })(hh:s.hour=d.now.water.hour):Sim { V with way:=W,tanks:=T,stores:=S } { d.now with water:=s }:=by
 refine⟨hw,?_,h.aboard⟩;have p:=h.p;refine⟨p.most,p.wJ,p.cabins,p.shut,p.DC,p.aM,p.QR,p.cards,p.card,p.FY,p.DP,p.persons,p.bR,p.seen,p.pT,fun x=>?_,p.me,?_,p.drill,p.lL,p.gate,p.rung,p.wW,p.kR,p.BW,fun i a b h1 h2=>?_⟩
 ·show d.now.muster.know x=0∨∃t,t≤s.hour∧_;rw[hh];exact p.know x
 ·show d.now.muster.minute=60*s.hour;rw[hh];exact p.minute
 ·obtain⟨a,b,c,d,e⟩:=p.parties i a b h1 h2;exact⟨a,b,c,d,e⟩
theorem Ea(h:Sim V d.now)(a b c:Nat):oB d (act d (.leg a b c)) V (CG V a b c):=by
 have he:=Bu h.w;have hh:=h.w.hour;have hl:V.way.legs.length=d.now.water.legs.length:=by rw[h.w.legs,List.length_map]
 have h10:=h.w.HB
 have e0:act d (.leg a b c)=if b≠0∧d.now.water.end_≤d.now.water.hour then(d,only (-16)) else d.waters (.leg a b c):=rfl
 have e1:Km442.act ⟨d.now.tanks,[],[]⟩ (.leg a b c)=if a=0∨500 < a∨1000 < b∨40 < c then(⟨d.now.tanks,[],[]⟩,Km442.only (-22)) else if Km442.LEGS≤d.now.water.legs.length then(⟨d.now.tanks,[],[]⟩,Km442.only (-28)) else if d.now.water.end_ < d.now.water.hour then(⟨d.now.tanks,[],[]⟩,Km442.only (-16)) else(Km442.Desk.become ⟨d.now.tanks,[],[]⟩ { d.now.tanks with legs:=d.now.water.legs++[⟨a,b,c⟩] },Km442.only ((d.now.water.end_+a:Nat):Int)):=rfl
 have o:=nU a 1 500;have m2:(cJ (a:Int) 1 500=true∨(b:Int) > 1000∨(c:Int) > 40)↔(a=0∨500 < a∨1000 < b∨40 < c):=by
  rw[show cJ (a:Int) 1 500=true↔a < 1∨500 < a from o];omega
 rw[e0];unfold CG;rw[he,hh,hl]
 by_cases c1:b≠0∧d.now.water.end_≤d.now.water.hour
 ·rw[if_pos c1,if_pos (by omega)];exact .no (-16) (by decide) rfl rfl
 ·rw[if_neg c1,if_neg (by omega)]
  by_cases c2:a=0∨500 < a∨1000 < b∨40 < c
  ·rw[if_pos (m2.2 c2)];exact .no (-22) (by decide) rfl (jF (by decide) (by rw[e1,if_pos c2]))
  ·rw[if_neg (fun q=>c2 (m2.1 q))]
   by_cases c3:Km442.LEGS≤d.now.water.legs.length
   ·rw[if_pos (show d.now.water.legs.length=10 by have :10≤d.now.water.legs.length:=c3;omega)];exact .no (-28) (by decide) rfl (jF (by decide) (by rw[e1,if_neg c2,if_pos c3]))
   ·rw[if_neg (show ¬d.now.water.legs.length=10 by have :¬10≤d.now.water.legs.length:=c3;omega)]
    by_cases c4:d.now.water.end_ < d.now.water.hour
    ·rw[if_pos (by omega)];exact .no (-16) (by decide) rfl (jF (by decide) (by rw[e1,if_neg c2,if_neg c3,if_pos c4]))
    ·rw[if_neg (by omega)];refine .yes _ _ (Int.natCast_nonneg _) (BV (Int.natCast_nonneg _) (by rw[e1,if_neg c2,if_neg c3,if_neg c4];rfl)) ?_ ?_
     ·show [((d.now.water.end_:Nat):Int)+(a:Int)]=[((d.now.water.end_+a:Nat):Int)];push_cast;rfl
     ·have w:=h.w;have t:=w.tanks
      refine h.water (s:={ d.now.tanks with legs:=d.now.water.legs++[⟨a,b,c⟩] }) ⟨w.last,w.hour,w.fC,?_,w.today,⟨t.uses,t.fm,t.makes,t.gm,t.bm,t.fresh,t.grey,t.black,t.making,t.gg,t.bg,t.made,t.used,t.ggo,t.bgo,t.fl,t.gl,t.bl⟩,w.uses,w.room,w.goods,w.lots,?_,w.rQ,w.end_,?_,w.tE⟩ rfl
      ·show V.way.legs++_=(d.now.water.legs++[(⟨a,b,c⟩:Km442.Leg)]).map fR;rw[w.legs,List.map_append];rfl
      ·show(d.now.water.legs++[_]).length≤10;have :¬10≤d.now.water.legs.length:=c3;rw[List.length_append];show d.now.water.legs.length+1≤10;omega
      ·show ∀x∈d.now.water.legs++[_],1≤x.hours;intro x hx
       rcases List.mem_append.mp hx with q |q
       ·exact w.pos x q
       ·rw[List.mem_singleton.mp q];show 1≤a;omega
theorem Eo(h:Sim V d.now)(a g b:Nat):oB d (act d (.set_ a g b)) V (CB V a g b):=by
 have e0:act d (.set_ a g b)=d.waters (.set_ a g b):=rfl
 have e1:Km442.act ⟨d.now.tanks,[],[]⟩ (.set_ a g b)=if 1 < a∨1 < g∨1 < b then(⟨d.now.tanks,[],[]⟩,Km442.only (-22)) else if d.now.water.making=(a==1)∧d.now.water.letGrey=(g==1)∧d.now.water.letBlack=(b==1) then(⟨d.now.tanks,[],[]⟩,Km442.only (-17)) else(Km442.Desk.become ⟨d.now.tanks,[],[]⟩ { d.now.tanks with making:=a==1,letGrey:=g==1,letBlack:=b==1 },Km442.only ((Km442.bit d.now.water.making+2*Km442.bit d.now.water.letGrey+4*Km442.bit d.now.water.letBlack:Nat):Int)):=rfl
 have w:=h.w;have t:=w.tanks
 have bm:∀x:Bool,(if x=true then(1:Int) else 0)=((Km442.bit x:Nat):Int):=fun x=>by cases x <;> rfl
 have hb:∀x:Bool,Km442.bit x≤1:=fun x=>by cases x <;> decide
 have hm:=t.making;have hg:=t.gg;have hk:=t.bg;rw[bm] at hm hg hk;rw[e0];unfold CB;simp only[]
 by_cases c1:1 < a∨1 < g∨1 < b
 ·rw[if_pos (by omega)];exact .no (-22) (by decide) rfl (jF (by decide) (by rw[e1,if_pos c1]))
 ·rw[if_neg (by omega),hm,hg,hk];have hq:∀(x:Bool) (n:Nat),n≤1→(x=(n==1)↔Km442.bit x=n):=fun x n hn=>by
   have :n=0∨n=1:=by omega
   rcases this with rfl |rfl <;> cases x <;> decide
  have m2:(((Km442.bit d.now.water.making:Nat):Int)+2*((Km442.bit d.now.water.letGrey:Nat):Int)+4*((Km442.bit d.now.water.letBlack:Nat):Int)=(a:Int)+2*(g:Int)+4*(b:Int))↔(d.now.water.making=(a==1)∧d.now.water.letGrey=(g==1)∧d.now.water.letBlack=(b==1)):=by
   rw[hq _ a (by omega),hq _ g (by omega),hq _ b (by omega)];have:=hb d.now.water.making;have:=hb d.now.water.letGrey;have:=hb d.now.water.letBlack;omega
  by_cases c2:d.now.water.making=(a==1)∧d.now.water.letGrey=(g==1)∧d.now.water.letBlack=(b==1)
  ·rw[if_pos (m2.2 c2)];exact .no (-17) (by decide) rfl (jF (by decide) (by rw[e1,if_neg c1,if_pos c2]))
  ·rw[if_neg (fun q=>c2 (m2.1 q))];refine .yes _ _ (Int.natCast_nonneg _) (BV (Int.natCast_nonneg _) (by rw[e1,if_neg c1,if_neg c2];rfl)) ?_ ?_
   ·show [_]=[((_:Nat):Int)];push_cast;rfl
   ·have hz:∀n:Nat,n≤1→(n:Int)=if (n==1)=true then 1 else 0:=fun n hn=>by
     have :n=0∨n=1:=by omega
     rcases this with rfl |rfl <;> rfl
    exact h.water (s:={ d.now.tanks with making:=a==1,letGrey:=g==1,letBlack:=b==1 }) ⟨w.last,w.hour,w.fC,w.legs,w.today,⟨t.uses,t.fm,t.makes,t.gm,t.bm,t.fresh,t.grey,t.black,hz a (by omega),hz g (by omega),hz b (by omega),t.made,t.used,t.ggo,t.bgo,t.fl,t.gl,t.bl⟩,w.uses,w.room,w.goods,w.lots,w.HB,w.rQ,w.end_,w.pos,w.tE⟩ rfl
theorem en(h:Sim V d.now):gP V.way=true↔(d.now.water.leg d.now.water.hour).miles≠0:=by
 rw[h.w.sea];unfold Machine.inPort
 by_cases c:(d.now.water.leg d.now.water.hour).miles=0
 ·rw[c];simp
 ·have :((d.now.water.leg d.now.water.hour).miles==0)=false:=beq_eq_false_iff_ne.mpr c;rw[this];simp[c]
theorem lg(h:Sim V d.now)(n:Nat):oB d (act d (.bunker n)) V (pH V n):=by
 have e0:act d (.bunker n)=d.waters (.bunker n):=rfl
 have e1:Km442.act ⟨d.now.tanks,[],[]⟩ (.bunker n)=if n=0 then(⟨d.now.tanks,[],[]⟩,Km442.only (-22)) else if (d.now.water.leg d.now.water.hour).miles≠0 then(⟨d.now.tanks,[],[]⟩,Km442.only (-16)) else if d.now.water.freshMost < d.now.water.fresh+n then(⟨d.now.tanks,[],[]⟩,Km442.only (-62)) else if 100*Km442.MOST < d.now.water.made+n then(⟨d.now.tanks,[],[]⟩,Km442.only (-28)) else(Km442.Desk.become ⟨d.now.tanks,[],[]⟩ { d.now.tanks with fresh:=d.now.water.fresh+n,made:=d.now.water.made+n },Km442.only ((d.now.water.fresh+n:Nat):Int)):=rfl
 have w:=h.w;have t:=w.tanks;have hp:=en h;rw[e0];unfold pH mY;have hf:=t.fresh;have hfm:=t.fm;have hmd:=t.made;have hfl:=t.fl;rw[hf,hfm,hmd]
 by_cases c1:n=0
 ·rw[if_pos (by omega)];exact .no (-22) (by decide) rfl (jF (by decide) (by rw[e1,if_pos c1]))
 ·rw[if_neg (by omega)]
  by_cases c2:(d.now.water.leg d.now.water.hour).miles≠0
  ·rw[if_pos (hp.2 c2)];exact .no (-16) (by decide) rfl (jF (by decide) (by rw[e1,if_neg c1,if_pos c2]))
  ·rw[if_neg (fun q=>c2 (hp.1 q))]
   by_cases c3:d.now.water.freshMost < d.now.water.fresh+n
   ·rw[if_pos (by omega)];exact .no (-62) (by decide) rfl (jF (by decide) (by rw[e1,if_neg c1,if_neg c2,if_pos c3]))
   ·rw[if_neg (by omega)]
    by_cases c4:100*Km442.MOST < d.now.water.made+n
    ·have :1000000000 < d.now.water.made+n:=c4;rw[if_pos (by omega)];exact .no (-28) (by decide) rfl (jF (by decide) (by rw[e1,if_neg c1,if_neg c2,if_neg c3,if_pos c4]))
    ·have :¬1000000000 < d.now.water.made+n:=c4;rw[if_neg (by omega)];refine .yes _ _ (Int.natCast_nonneg _) (BV (Int.natCast_nonneg _) (by rw[e1,if_neg c1,if_neg c2,if_neg c3,if_neg c4];rfl)) ?_ ?_
     ·show [_]=[((_:Nat):Int)];push_cast;rfl
     ·refine h.water (T:=FM V.tanks n) (s:={ d.now.tanks with fresh:=d.now.water.fresh+n,made:=d.now.water.made+n }) ⟨w.last,w.hour,w.fC,w.legs,w.today,⟨t.uses,t.fm,t.makes,t.gm,t.bm,?_,t.grey,t.black,t.making,t.gg,t.bg,?_,t.used,t.ggo,t.bgo,?_,t.gl,t.bl⟩,w.uses,w.room,w.goods,w.lots,w.HB,w.rQ,w.end_,w.pos,w.tE⟩ rfl
      ·show V.tanks.fresh+(n:Int)=((d.now.water.fresh+n:Nat):Int);rw[hf];push_cast;rfl
      ·show V.tanks.uS+(n:Int)=((d.now.water.made+n:Nat):Int);rw[hmd];push_cast;rfl
      ·show d.now.water.fresh+n≤d.now.water.freshMost;omega
theorem wk(h:Sim V d.now)(g b:Nat):oB d (act d (.shore g b)) V (pP V g b):=by
 have e0:act d (.shore g b)=d.waters (.shore g b):=rfl
 have e1:Km442.act ⟨d.now.tanks,[],[]⟩ (.shore g b)=if g=0∧b=0 then(⟨d.now.tanks,[],[]⟩,Km442.only (-22)) else if (d.now.water.leg d.now.water.hour).miles≠0 then(⟨d.now.tanks,[],[]⟩,Km442.only (-16)) else if d.now.water.grey < g∨d.now.water.black < b then(⟨d.now.tanks,[],[]⟩,Km442.only (-12)) else(Km442.Desk.become ⟨d.now.tanks,[],[]⟩ { d.now.tanks with grey:=d.now.water.grey - g,black:=d.now.water.black - b,ashore:=d.now.water.ashore+g+b },⟨((d.now.water.grey - g:Nat):Int),[d.now.water.black - b]⟩):=rfl
 have w:=h.w;have t:=w.tanks;have hp:=en h;rw[e0];unfold pP;have hf:=t.grey;have hk:=t.black;rw[hf,hk]
 by_cases c1:g=0∧b=0
 ·rw[if_pos (by omega)];exact .no (-22) (by decide) rfl (jF (by decide) (by rw[e1,if_pos c1]))
 ·rw[if_neg (by omega)]
  by_cases c2:(d.now.water.leg d.now.water.hour).miles≠0
  ·rw[if_pos (hp.2 c2)];exact .no (-16) (by decide) rfl (jF (by decide) (by rw[e1,if_neg c1,if_pos c2]))
  ·rw[if_neg (fun q=>c2 (hp.1 q))]
   by_cases c3:d.now.water.grey < g∨d.now.water.black < b
   ·rw[if_pos (by omega)];exact .no (-12) (by decide) rfl (jF (by decide) (by rw[e1,if_neg c1,if_neg c2,if_pos c3]))
   ·rw[if_neg (by omega)];refine .yes _ _ (Int.natCast_nonneg _) (BV (Int.natCast_nonneg _) (by rw[e1,if_neg c1,if_neg c2,if_neg c3])) ?_ ?_
    ·show [_,_]=[((d.now.water.grey - g:Nat):Int),((d.now.water.black - b:Nat):Int)];rw[show((d.now.water.grey - g:Nat):Int)=(d.now.water.grey:Int) - (g:Int) by omega,show((d.now.water.black - b:Nat):Int)=(d.now.water.black:Int) - (b:Int) by omega]
    ·have hgl:=t.gl;have hbl:=t.bl
     refine h.water (T:={ V.tanks with grey:=(d.now.water.grey:Int) - (g:Int),black:=(d.now.water.black:Int) - (b:Int) }) (s:={ d.now.tanks with grey:=d.now.water.grey - g,black:=d.now.water.black - b,ashore:=d.now.water.ashore+g+b }) ⟨w.last,w.hour,w.fC,w.legs,w.today,⟨t.uses,t.fm,t.makes,t.gm,t.bm,t.fresh,?_,?_,t.making,t.gg,t.bg,t.made,t.used,t.ggo,t.bgo,t.fl,?_,?_⟩,w.uses,w.room,w.goods,w.lots,w.HB,w.rQ,w.end_,w.pos,w.tE⟩ rfl
     ·show(d.now.water.grey:Int) - (g:Int)=((d.now.water.grey - g:Nat):Int);omega
     ·show(d.now.water.black:Int) - (b:Int)=((d.now.water.black - b:Nat):Int);omega
     ·show d.now.water.grey - g≤d.now.water.greyMost;omega
     ·show d.now.water.black - b≤d.now.water.blackMost;omega
theorem tj(h:Sim V d.now)(n:Nat):oB d (act d (.hours n)) V (kO V n):=by
 have e0:act d (.hours n)=if n=0∨240 < n then(d,only (-22)) else if 24*(d.now.stores.last+1) < d.now.water.hour+n then(d,only (-75)) else
   (d.become (d.now.go n),⟨(((d.now.go n).water.hour:Nat):Int),[(d.now.go n).late - d.now.late,(d.now.go n).water.lacked - d.now.water.lacked,bit (d.now.go n).inPort]⟩):=rfl
 rw[e0];unfold kO GY;rw[h.w.hour,h.w.last];have o:=nU n 1 240;have m1:cJ (n:Int) 1 240=true↔n=0∨240 < n:=by rw[show cJ (n:Int) 1 240=true↔n < 1∨240 < n from o];omega
 by_cases c1:n=0∨240 < n
 ·rw[if_pos c1,if_pos (m1.2 c1)];exact .no (-22) (by decide) rfl rfl
 ·rw[if_neg c1,if_neg (fun q=>c1 (m1.1 q))]
  by_cases c2:24*(d.now.stores.last+1) < d.now.water.hour+n
  ·rw[if_pos c2,if_pos (by omega)];exact .no (-75) (by decide) rfl rfl
  ·rw[if_neg c2,if_neg (by omega)];obtain⟨i1,i2,i3,i4⟩:=Sim.hours n 0 h (by omega);have hlate:∀(k:Nat) (m:Machine),m.late≤(m.go k).late:=by
    intro k
    induction k with
    |zero=>intro m;exact Nat.le_refl _
    |succ k ih=>
     intro m;have h1:m.late≤m.hourly.late:=Nat.le_add_right _ _;exact Nat.le_trans h1 (ih m.hourly)
   refine .yes _ _ (Int.natCast_nonneg _) rfl ?_ i1;have hl:=hlate n d.now
   show [(dU n V 0).1.way.hour,(dU n V 0).1.way.fC - V.way.fC,(dU n V 0).2,if gP (dU n V 0).1.way=true then 0 else 1]=[(((d.now.go n).water.hour:Nat):Int),(((d.now.go n).late - d.now.late:Nat):Int),(((d.now.go n).water.lacked - d.now.water.lacked:Nat):Int),((bit (d.now.go n).inPort:Nat):Int)]
   rw[i2,i1.w.hour,i1.w.fC,h.w.fC,i1.w.sea];congr 1;congr 1
   ·omega
   ·congr 1
    ·omega
    ·congr 1;unfold bit;cases (d.now.go n).inPort <;> rfl
theorem Sim.stores{s:Km438.Ship}{S:gC}(h:Sim V d.now)(hl:s.last=d.now.stores.last)(ht:s.today=d.now.stores.today)(hr:S.room=s.room)(hg:S.goods=s.goods.map eD)(hlots:∀g∈s.goods,EX g s.today)(hn:s.goods.length≤6):Sim { V with stores:=S } { d.now with stores:=s }:=by
 have w:=h.w;refine⟨⟨w.last.trans (by rw[←hl]),w.hour,w.fC,w.legs,ht.trans w.today,w.tanks,w.uses,hr,hg,hlots,w.HB,hn,?_,w.pos,by show s.last≤60;rw[hl];exact w.tE⟩,?_,h.aboard⟩
 ·show d.now.water.hour≤24*(s.last+1);rw[hl];exact w.end_
 ·have p:=h.p;refine⟨p.most,p.wJ,p.cabins,p.shut,p.DC,p.aM,p.QR,p.cards,p.card,p.FY,p.DP,p.persons,p.bR,p.seen,p.pT,p.know,p.me,p.minute,p.drill,p.lL,p.gate,p.rung,p.wW,p.kR,p.BW,fun i a b h1 h2=>?_⟩;obtain⟨a,b,c,d,e⟩:=p.parties i a b h1 h2;exact⟨a,b,c,d,e⟩
theorem Bi(h:Sim V d.now)(p l:Nat):oB d (act d (.good p l)) V (wE V p l):=by
 have e1:Km438.act ⟨d.now.stores,[],[]⟩ (.good p l)=if p=0∨1000 < p∨l=0∨100 < l then(⟨d.now.stores,[],[]⟩,Km438.only (-22)) else if Km438.GOODS≤d.now.stores.goods.length then(⟨d.now.stores,[],[]⟩,Km438.only (-28)) else(Km438.Desk.become ⟨d.now.stores,[],[]⟩ { d.now.stores with goods:=d.now.stores.goods++[⟨p,l,[],0,0,0,0,0⟩] },Km438.only ((d.now.stores.goods.length:Nat):Int)):=rfl
 have e0:act d (.good p l)=if (Km438.act ⟨d.now.stores,[],[]⟩ (.good p l)).2.value < 0 then(d,only (Km438.act ⟨d.now.stores,[],[]⟩ (.good p l)).2.value) else(d.become { d.now with stores:=(Km438.act ⟨d.now.stores,[],[]⟩ (.good p l)).1.now },only (Km438.act ⟨d.now.stores,[],[]⟩ (.good p l)).2.value):=rfl
 have w:=h.w;have hl:V.stores.goods.length=d.now.stores.goods.length:=by rw[w.goods,List.length_map]
 have o1:=nU p 1 1000;have o2:=nU l 1 100;have m1:(cJ (p:Int) 1 1000=true∨cJ (l:Int) 1 100=true)↔(p=0∨1000 < p∨l=0∨100 < l):=by
  rw[show cJ (p:Int) 1 1000=true↔p < 1∨1000 < p from o1,show cJ (l:Int) 1 100=true↔l < 1∨100 < l from o2];omega
 have h6:=w.rQ;rw[e0];unfold wE;rw[hl]
 by_cases c1:p=0∨1000 < p∨l=0∨100 < l
 ·rw[if_pos (m1.2 c1),e1,if_pos c1];exact .no (-22) (by decide) rfl rfl
 ·rw[if_neg (fun q=>c1 (m1.1 q)),e1,if_neg c1]
  by_cases c2:Km438.GOODS≤d.now.stores.goods.length
  ·rw[if_pos c2,if_pos (show d.now.stores.goods.length=6 by have :6≤d.now.stores.goods.length:=c2;omega)];exact .no (-28) (by decide) rfl rfl
  ·have c3:¬6≤d.now.stores.goods.length:=c2;rw[if_neg c2,if_neg (show ¬d.now.stores.goods.length=6 by omega)]
   refine .yes { d.now with stores:={ d.now.stores with goods:=d.now.stores.goods++[⟨p,l,[],0,0,0,0,0⟩] } } (only ((d.now.stores.goods.length:Nat):Int)) (Int.natCast_nonneg _) (if_neg (show ¬(((d.now.stores.goods.length:Nat):Int) < 0) by omega)) rfl ?_
   refine h.stores (s:={ d.now.stores with goods:=d.now.stores.goods++[⟨p,l,[],0,0,0,0,0⟩] }) rfl rfl w.room ?_ ?_ ?_
   ·show V.stores.goods++_=(d.now.stores.goods++[(⟨p,l,[],0,0,0,0,0⟩:Km438.Good)]).map eD;rw[w.goods,List.map_append];rfl
   ·intro g hg
    rcases List.mem_append.mp hg with q |q
    ·exact w.lots g q
    ·rw[List.mem_singleton.mp q];exact⟨fun _ z=>absurd z (by simp),List.Pairwise.nil,fun _ z=>absurd z (by simp),Nat.zero_le _,fun _ z=>absurd z (by simp),(by omega:1≤p),(by omega:p≤1000),(by omega:l≤100)⟩
   ·show(d.now.stores.goods++[_]).length≤6;rw[List.length_append];show d.now.stores.goods.length+1≤6;omega
theorem W3(l:List Km438.Good):((l.map eD).map Good.loaded).sum=((sum (l.map fun x=>x.loaded):Nat):Int):=by
 unfold sum;rw[mU,Nat.zero_add,←NY,List.map_map,List.map_map];rfl
theorem QD(g:Km438.Good):sN (eD g)=((Km438.amount g.lots:Nat):Int):=J0 g.lots
theorem Id(l:List Km438.Good):((l.map eD).map sN).sum=((Km438.sum (l.map fun g=>Km438.amount g.lots):Nat):Int):=by
 unfold Km438.sum;rw[mU,Nat.zero_add,←NY,List.map_map,List.map_map];congr 1;exact List.map_congr_left fun g _=>QD g
theorem Cu{α:Type}(f:α→Bool)(l:List α):(l.map f).any id=l.any f:=by
 induction l with
 |nil=>rfl
 |cons a l ih=>simp only[List.map_cons,List.any_cons,ih];rfl
theorem zo{g:Km438.Good}{t:Nat}(h:EX g t):lQ (eD g) ((t+g.life:Nat):Int)=true↔∃l0 a,g.lots=l0++[(t+g.life,a)]:=by
 unfold lQ;rw[Cu];constructor
 ·intro q;obtain⟨x,hx,e⟩:=List.any_eq_true.mp q;obtain⟨y,hy,rfl⟩:=List.mem_map.mp (show x∈g.lots.map iO from hx);have ey:y.1=t+g.life:=by
   have :((y.1:Nat):Int)=((t+g.life:Nat):Int):=of_decide_eq_true e;omega
  obtain⟨l0,l1,hl⟩:=List.append_of_mem hy
  cases l1 with
  |nil=>exact⟨l0,y.2,by rw[hl,←ey]⟩
  |cons z l1=>
   exfalso;have hs:=h.srt;rw[hl,List.map_append,List.map_cons,List.map_cons] at hs;have h2:=(List.pairwise_append.mp hs).2.1;have h3:y.1 < z.1:=(List.pairwise_cons.mp h2).1 z.1 List.mem_cons_self;have h4:=h.top z (by rw[hl];simp);omega
 ·rintro⟨l0,a,e⟩;refine List.any_eq_true.mpr ⟨iO (t+g.life,a),?_,decide_eq_true rfl⟩;show iO (t+g.life,a)∈g.lots.map iO;exact List.mem_map.mpr ⟨_,by rw[e];simp,rfl⟩
theorem zc(h:Sim V d.now)(g n:Nat):oB d (act d (.load g n)) V (wI V g n):=by
 have w:=h.w;have hl:V.stores.goods.length=d.now.stores.goods.length:=by rw[w.goods,List.length_map]
 have hsea:gP V.way=true↔d.now.inPort=false:=by rw[w.sea];cases d.now.inPort <;> simp
 unfold wI;simp only[];rw[hl]
 cases eg:d.now.stores.goods[g]? with
 |none=>
  have hg:d.now.stores.goods.length≤g:=List.getElem?_eq_none_iff.mp eg;rw[if_pos (show((g:Nat):Int)≥((d.now.stores.goods.length:Nat):Int) by omega)];refine .no (-2) (by decide) rfl ?_
  show(match d.now.stores.goods[g]? with |none=>(d,only (-2)) |some _=>_)=_
  rw[eg]
 |some x=>
  have hg:g < d.now.stores.goods.length:=(List.getElem?_eq_some_iff.mp eg).1;have hmem:x∈d.now.stores.goods:=List.mem_of_getElem? eg;have hok:=w.lots x hmem;rw[if_neg (show ¬((g:Nat):Int)≥((d.now.stores.goods.length:Nat):Int) by omega)];have eG:V.stores.goods.getD ((g:Nat):Int).toNat ⟨0,0,[],0,0,0,0⟩=eD x:=by
   rw[w.goods,List.getD_eq_getElem?_getD,Int.toNat_natCast,List.getElem?_map,eg];rfl
  rw[eG]
  have ports:({ d.now.larder with ports:=[d.now.stores.today] }:Km438.Ship).ports.contains d.now.stores.today=true:=by
   show List.contains [d.now.stores.today] d.now.stores.today=true;simp
  have e1:Km438.act ⟨{ d.now.larder with ports:=[d.now.stores.today] },[],[]⟩ (.load g n)=if n=0 then(⟨{ d.now.larder with ports:=[d.now.stores.today] },[],[]⟩,Km438.only (-22)) else if d.now.stores.room < d.now.stores.full+n∨Km438.MOST < x.loaded+n then(⟨{ d.now.larder with ports:=[d.now.stores.today] },[],[]⟩,Km438.only (-62)) else if Km438.LOTS < (x.with_ d.now.stores.today n).length then(⟨{ d.now.larder with ports:=[d.now.stores.today] },[],[]⟩,Km438.only (-28)) else(Km438.Desk.become ⟨{ d.now.larder with ports:=[d.now.stores.today] },[],[]⟩ (({ d.now.larder with ports:=[d.now.stores.today] }:Km438.Ship).setGood g { x with lots:=x.with_ d.now.stores.today n,loaded:=x.loaded+n }),⟨((Km438.amount x.lots+n:Nat):Int),[d.now.stores.today+x.life]⟩):=by
   show(match d.now.stores.goods[g]? with |none=>_ |some x=>(if n=0 then _ else if ({ d.now.larder with ports:=[d.now.stores.today] }:Km438.Ship).ports.contains d.now.stores.today=false then _ else _))=_
   rw[eg];simp only[ports];rfl
  have e0:act d (.load g n)=if n=0 then(d,only (-22)) else if d.now.inPort=false then(d,only (-16)) else if 2000000000 < sum (d.now.stores.goods.map fun x=>x.loaded)+n then(d,only (-62)) else
    if (Km438.act ⟨{ d.now.larder with ports:=[d.now.stores.today] },[],[]⟩ (.load g n)).2.value < 0 then(d,only (Km438.act ⟨{ d.now.larder with ports:=[d.now.stores.today] },[],[]⟩ (.load g n)).2.value) else(d.become { d.now with stores:=(Km438.act ⟨{ d.now.larder with ports:=[d.now.stores.today] },[],[]⟩ (.load g n)).1.now },⟨(Km438.act ⟨{ d.now.larder with ports:=[d.now.stores.today] },[],[]⟩ (.load g n)).2.value,(Km438.act ⟨{ d.now.larder with ports:=[d.now.stores.today] },[],[]⟩ (.load g n)).2.out⟩):=by
   show(match d.now.stores.goods[g]? with |none=>_ |some _=>_)=_
   rw[eg]
  rw[e0,e1];have hU:uC V.stores=((d.now.stores.full:Nat):Int):=by
   unfold uC;rw[w.goods];exact Id _
  have hL:oT V.stores=((sum (d.now.stores.goods.map fun x=>x.loaded):Nat):Int):=by
   unfold oT;rw[w.goods];exact W3 _
  have hT:today V.way=((d.now.stores.today:Nat):Int):=by
   unfold today;rw[w.hour,w.today];omega
  rw[hU,hL,hT,w.room];have hld:(eD x).loaded=((x.loaded:Nat):Int):=rfl;have hlf:(eD x).life=((x.life:Nat):Int):=rfl;have hll:(eD x).lots.length=x.lots.length:=by show(x.lots.map iO).length=_;rw[List.length_map]
  rw[hld,hlf,hll]
  by_cases c1:n=0
  ·rw[if_pos c1,if_pos (by omega)];exact .no (-22) (by decide) rfl rfl
  ·rw[if_neg c1,if_neg (show ¬((n:Nat):Int)=0 by omega)]
   by_cases c2:d.now.inPort=false
   ·rw[if_pos c2,if_pos (hsea.2 c2)];exact .no (-16) (by decide) rfl rfl
   ·rw[if_neg c2,if_neg (fun q=>c2 (hsea.1 q))]
    by_cases c3:2000000000 < sum (d.now.stores.goods.map fun x=>x.loaded)+n
    ·rw[if_pos c3,if_pos (show((d.now.stores.full:Nat):Int)+((n:Nat):Int) > ((d.now.stores.room:Nat):Int)∨((x.loaded:Nat):Int)+((n:Nat):Int) > 1000000000∨((sum (d.now.stores.goods.map fun x=>x.loaded):Nat):Int)+((n:Nat):Int) > 2000000000 by omega)];exact .no (-62) (by decide) rfl rfl
    ·rw[if_neg c3,if_neg c1]
     by_cases c4:d.now.stores.room < d.now.stores.full+n∨Km438.MOST < x.loaded+n
     ·have c4':d.now.stores.room < d.now.stores.full+n∨1000000000 < x.loaded+n:=c4;rw[if_pos c4,if_pos (show((d.now.stores.full:Nat):Int)+((n:Nat):Int) > ((d.now.stores.room:Nat):Int)∨((x.loaded:Nat):Int)+((n:Nat):Int) > 1000000000∨((sum (d.now.stores.goods.map fun x=>x.loaded):Nat):Int)+((n:Nat):Int) > 2000000000 by omega)];exact .no (-62) (by decide) rfl rfl
     ·have c4':¬(d.now.stores.room < d.now.stores.full+n∨1000000000 < x.loaded+n):=c4;rw[if_neg c4,if_neg (show ¬(((d.now.stores.full:Nat):Int)+((n:Nat):Int) > ((d.now.stores.room:Nat):Int)∨((x.loaded:Nat):Int)+((n:Nat):Int) > 1000000000∨((sum (d.now.stores.goods.map fun x=>x.loaded):Nat):Int)+((n:Nat):Int) > 2000000000) by omega)];have hd:((d.now.stores.today:Nat):Int)+((x.life:Nat):Int)=((d.now.stores.today+x.life:Nat):Int):=by push_cast;rfl
      rw[hd];have hiff:=zo hok;have hfew:=hok.few
      by_cases c5:∃l0 a,x.lots=l0++[(d.now.stores.today+x.life,a)]
      ·have hh:=hiff.2 c5;obtain⟨l0,a,hlots⟩:=c5;have hwith:x.with_ d.now.stores.today n=l0++[(d.now.stores.today+x.life,a+n)]:=by
        unfold Km438.Good.with_;rw[if_neg c1,hlots];simp
       have hlen:¬Km438.LOTS < (x.with_ d.now.stores.today n).length:=by
        rw[hwith];have :x.lots.length≤6:=hfew;rw[hlots] at this;rw[List.length_append] at this ⊢;exact Nat.not_lt.mpr this
       rw[if_neg hlen,if_neg (show ¬(x.lots.length=6∧lQ (eD x) ((d.now.stores.today+x.life:Nat):Int)=false) by rw[hh];intro q;exact absurd q.2 (by decide))]
       have hG2:jL (eD x) ((d.now.stores.today+x.life:Nat):Int) ((n:Nat):Int)=eD { x with lots:=x.with_ d.now.stores.today n,loaded:=x.loaded+n }:=by
        unfold jL;rw[if_pos hh,hwith];unfold eD;simp only[];rw[hlots,List.map_append,List.map_append,List.map_cons,List.map_nil,List.dropLast_concat,List.getLastD_concat];congr 1;congr 1;show [(⟨_,((n:Nat):Int)+((a:Nat):Int)⟩:Lot)]=[⟨_,((a+n:Nat):Int)⟩];congr 2;push_cast;omega
       refine .yes { d.now with stores:=({ d.now.larder with ports:=[d.now.stores.today] }:Km438.Ship).setGood g { x with lots:=x.with_ d.now.stores.today n,loaded:=x.loaded+n } } ⟨((Km438.amount x.lots+n:Nat):Int),[d.now.stores.today+x.life]⟩ (Int.natCast_nonneg _) (if_neg (show ¬(((Km438.amount x.lots+n:Nat):Int) < 0) by omega)) ?_ ?_
       ·show [_,_]=[((Km438.amount x.lots+n:Nat):Int),((d.now.stores.today+x.life:Nat):Int)];rw[hG2,QD];have ham:Km438.amount (x.with_ d.now.stores.today n)=Km438.amount x.lots+n:=by
         rw[hwith,hlots];unfold Km438.amount Km438.sum;rw[mU,mU,List.map_append,List.map_append,List.sum_append,List.sum_append];simp;omega
        show [((Km438.amount (x.with_ d.now.stores.today n):Nat):Int),_]=_;rw[ham]
       ·refine h.stores (s:=({ d.now.larder with ports:=[d.now.stores.today] }:Km438.Ship).setGood g { x with lots:=x.with_ d.now.stores.today n,loaded:=x.loaded+n }) (S:=⟨((d.now.stores.room:Nat):Int),V.stores.goods.set ((g:Nat):Int).toNat (jL (eD x) ((d.now.stores.today+x.life:Nat):Int) ((n:Nat):Int))⟩) rfl rfl rfl ?_ ?_ ?_
        ·show V.stores.goods.set ((g:Nat):Int).toNat _=(d.now.stores.goods.set g _).map eD;rw[Int.toNat_natCast,w.goods,List.map_set,hG2]
        ·intro y hy
         rcases List.mem_or_eq_of_mem_set hy with q |q
         ·exact w.lots y q
         ·rw[q];have hlow:∀z∈x.with_ d.now.stores.today n,d.now.stores.today≤z.1:=by
           rw[hwith];intro z hz
           rcases List.mem_append.mp hz with q2 |q2
           ·exact hok.low z (by rw[hlots];exact List.mem_append_left _ q2)
           ·rw[List.mem_singleton.mp q2];exact Nat.le_add_right _ _
          refine⟨?_,?_,?_,?_,hlow,hok.perp,hok.per3,hok.wb⟩
          ·show Pos (x.with_ d.now.stores.today n);rw[hwith];intro z hz
           rcases List.mem_append.mp hz with q2 |q2
           ·exact hok.pos z (by rw[hlots];exact List.mem_append_left _ q2)
           ·rw[List.mem_singleton.mp q2];show 0 < a+n;omega
          ·show((x.with_ d.now.stores.today n).map Prod.fst).Pairwise (· < ·);rw[hwith];have:=hok.srt;rw[hlots] at this;simpa using this
          ·show ∀z∈x.with_ d.now.stores.today n,z.1≤d.now.stores.today+x.life;rw[hwith];intro z hz
           rcases List.mem_append.mp hz with q2 |q2
           ·exact hok.top z (by rw[hlots];exact List.mem_append_left _ q2)
           ·rw[List.mem_singleton.mp q2];exact Nat.le_refl _
          ·show(x.with_ d.now.stores.today n).length≤6;exact Nat.not_lt.mp hlen
        ·show(d.now.stores.goods.set g _).length≤6;rw[List.length_set];exact w.rQ
      ·have hh:lQ (eD x) ((d.now.stores.today+x.life:Nat):Int)=false:=by
        cases q:lQ (eD x) ((d.now.stores.today+x.life:Nat):Int) with
        |false=>rfl
        |true=>exact absurd (hiff.1 q) c5
       have hwith:x.with_ d.now.stores.today n=x.lots++[(d.now.stores.today+x.life,n)]:=by
        unfold Km438.Good.with_;rw[if_neg c1]
        cases e:x.lots.getLast? with
        |none=>
         have e0:x.lots=[]:=List.getLast?_eq_none_iff.mp e;rw[e0];rfl
        |some z=>
         simp only[];rw[if_neg];intro q;obtain⟨l0,hl0⟩:=List.getLast?_eq_some_iff.mp e;exact c5 ⟨l0,z.2,by rw[hl0,←q]⟩
       have hlt:∀z∈x.lots,z.1 < d.now.stores.today+x.life:=by
        intro z hz;have h1:=hok.top z hz
        rcases Nat.lt_or_eq_of_le h1 with q |q
        ·exact q
        ·exfalso;have :lQ (eD x) ((d.now.stores.today+x.life:Nat):Int)=true:=by
          unfold lQ;rw[Cu];refine List.any_eq_true.mpr ⟨iO z,List.mem_map.mpr ⟨z,hz,rfl⟩,decide_eq_true ?_⟩;show((z.1:Nat):Int)=_;rw[q]
         rw[this] at hh;cases hh
       by_cases c6:Km438.LOTS < (x.with_ d.now.stores.today n).length
       ·have c6':6 < (x.with_ d.now.stores.today n).length:=c6;rw[hwith,List.length_append] at c6';have c7:x.lots.length=6:=by
         have :6 < x.lots.length+1:=c6';omega
        rw[if_pos c6,if_pos (show x.lots.length=6∧lQ (eD x) ((d.now.stores.today+x.life:Nat):Int)=false from⟨c7,hh⟩)];exact .no (-28) (by decide) rfl rfl
       ·have c6':¬6 < (x.with_ d.now.stores.today n).length:=c6;rw[hwith,List.length_append] at c6';have c7:¬x.lots.length=6:=by
         have :¬6 < x.lots.length+1:=c6';omega
        rw[if_neg c6,if_neg (show ¬(x.lots.length=6∧lQ (eD x) ((d.now.stores.today+x.life:Nat):Int)=false) from fun q=>c7 q.1)]
        have hG2:jL (eD x) ((d.now.stores.today+x.life:Nat):Int) ((n:Nat):Int)=eD { x with lots:=x.with_ d.now.stores.today n,loaded:=x.loaded+n }:=by
         unfold jL;rw[if_neg (by rw[hh];decide),hwith];unfold eD;simp only[];rw[List.map_append];congr 1
        refine .yes { d.now with stores:=({ d.now.larder with ports:=[d.now.stores.today] }:Km438.Ship).setGood g { x with lots:=x.with_ d.now.stores.today n,loaded:=x.loaded+n } } ⟨((Km438.amount x.lots+n:Nat):Int),[d.now.stores.today+x.life]⟩ (Int.natCast_nonneg _) (if_neg (show ¬(((Km438.amount x.lots+n:Nat):Int) < 0) by omega)) ?_ ?_
        ·show [_,_]=[((Km438.amount x.lots+n:Nat):Int),((d.now.stores.today+x.life:Nat):Int)];rw[hG2,QD];have ham:Km438.amount (x.with_ d.now.stores.today n)=Km438.amount x.lots+n:=by
          rw[hwith];unfold Km438.amount Km438.sum;rw[mU,mU,List.map_append,List.sum_append];simp
         show [((Km438.amount (x.with_ d.now.stores.today n):Nat):Int),_]=_;rw[ham]
        ·refine h.stores (s:=({ d.now.larder with ports:=[d.now.stores.today] }:Km438.Ship).setGood g { x with lots:=x.with_ d.now.stores.today n,loaded:=x.loaded+n }) (S:=⟨((d.now.stores.room:Nat):Int),V.stores.goods.set ((g:Nat):Int).toNat (jL (eD x) ((d.now.stores.today+x.life:Nat):Int) ((n:Nat):Int))⟩) rfl rfl rfl ?_ ?_ ?_
         ·show V.stores.goods.set ((g:Nat):Int).toNat _=(d.now.stores.goods.set g _).map eD;rw[Int.toNat_natCast,w.goods,List.map_set,hG2]
         ·intro y hy
          rcases List.mem_or_eq_of_mem_set hy with q |q
          ·exact w.lots y q
          ·rw[q];have hlow:∀z∈x.with_ d.now.stores.today n,d.now.stores.today≤z.1:=by
            rw[hwith];intro z hz
            rcases List.mem_append.mp hz with q2 |q2
            ·exact hok.low z q2
            ·rw[List.mem_singleton.mp q2];exact Nat.le_add_right _ _
           refine⟨?_,?_,?_,?_,hlow,hok.perp,hok.per3,hok.wb⟩
           ·show Pos (x.with_ d.now.stores.today n);rw[hwith];intro z hz
            rcases List.mem_append.mp hz with q2 |q2
            ·exact hok.pos z q2
            ·rw[List.mem_singleton.mp q2];show 0 < n;omega
           ·show((x.with_ d.now.stores.today n).map Prod.fst).Pairwise (· < ·);rw[hwith,List.map_append];refine List.pairwise_append.mpr ⟨hok.srt,List.pairwise_singleton _ _,fun p hp q2 hq=>?_⟩;obtain⟨z,hz,rfl⟩:=List.mem_map.mp hp;rw[List.mem_singleton.mp hq];exact hlt z hz
           ·show ∀z∈x.with_ d.now.stores.today n,z.1≤d.now.stores.today+x.life;rw[hwith];intro z hz
            rcases List.mem_append.mp hz with q2 |q2
            ·exact hok.top z q2
            ·rw[List.mem_singleton.mp q2];exact Nat.le_refl _
           ·show(x.with_ d.now.stores.today n).length≤6;exact Nat.not_lt.mp c6
         ·show(d.now.stores.goods.set g _).length≤6;rw[List.length_set];exact w.rQ
theorem Sim.aF{P:cZ}(h:Sim V d.now){m':Machine}(hw:m'.water=d.now.water)(hs:m'.stores=d.now.stores)(hl:m'.late=d.now.late)(hp:dY P m')(ha:m'.aboard≤m'.gang.most):Sim { V with aF:=P } m':=by
 obtain⟨a,b,c,e,f,g,i⟩:=m';simp only at hw hs hl;subst hw hs hl;have w:=h.w;exact⟨⟨w.last,w.hour,w.fC,w.legs,w.today,w.tanks,w.uses,w.room,w.goods,w.lots,w.HB,w.rQ,w.end_,w.pos,w.tE⟩,hp,ha⟩
theorem xp(h:Sim V d.now)(a b k n f:Nat):oB d (act d (.cabin a b k n f)) V (sE V a b k n f):=by
 have p:=h.p
 have e0:act d (.cabin a b k n f)=if (Km437.act ⟨d.now.cabins,[],[]⟩ (.cabin a b k n f)).2.value < 0 then(d,only (Km437.act ⟨d.now.cabins,[],[]⟩ (.cabin a b k n f)).2.value) else(d.become { d.now with cabins:=(Km437.act ⟨d.now.cabins,[],[]⟩ (.cabin a b k n f)).1.now },only (Km437.act ⟨d.now.cabins,[],[]⟩ (.cabin a b k n f)).2.value):=rfl
 have e1:Km437.act ⟨d.now.cabins,[],[]⟩ (.cabin a b k n f)=if 20 < a∨500 < b∨3 < k∨n=0∨6 < n∨1 < f∨(d.now.cabins.cabins.any fun c=>c.deck==a&&c.place==b)=true then(⟨d.now.cabins,[],[]⟩,Km437.only (-22)) else if Km437.CABINS≤d.now.cabins.cabins.length then(⟨d.now.cabins,[],[]⟩,Km437.only (-28)) else(Km437.Desk.become ⟨d.now.cabins,[],[]⟩ { d.now.cabins with cabins:=d.now.cabins.cabins++[⟨a,b,k,n,f==1,false⟩] },Km437.only ((d.now.cabins.cabins.length:Nat):Int)):=rfl
 have hl:V.aF.cabins.length=d.now.cabins.cabins.length:=by rw[p.cabins,List.length_map]
 have o:=nU n 1 6;have hany:(V.aF.cabins.map fun c=>decide (c.deck=(a:Int))&&decide (c.place=(b:Int))).any id=d.now.cabins.cabins.any fun c=>c.deck==a&&c.place==b:=by
  rw[p.cabins];generalize d.now.cabins.cabins=l
  induction l with
  |nil=>rfl
  |cons x l ih=>
   simp only[List.map_cons,List.any_cons];rw[ih];congr 1;show(decide (((x.deck:Nat):Int)=(a:Int))&&decide (((x.place:Nat):Int)=(b:Int)))=_;congr 1
   ·by_cases c:x.deck=a
    ·rw[c];simp
    ·rw[decide_eq_false (by omega),beq_eq_false_iff_ne.mpr c]
   ·by_cases c:x.place=b
    ·rw[c];simp
    ·rw[decide_eq_false (by omega),beq_eq_false_iff_ne.mpr c]
 have h12:=p.DC;have m1:((a:Int) > 20∨(b:Int) > 500∨(k:Int) > 3∨cJ (n:Int) 1 6=true∨(f:Int) > 1)↔(20 < a∨500 < b∨3 < k∨n=0∨6 < n∨1 < f):=by
  rw[show cJ (n:Int) 1 6=true↔n < 1∨6 < n from o];omega
 rw[e0];unfold sE;rw[hl,hany]
 by_cases c1:20 < a∨500 < b∨3 < k∨n=0∨6 < n∨1 < f
 ·rw[if_pos (m1.2 c1),e1.trans (if_pos (by omega))];exact .no (-22) (by decide) rfl rfl
 ·rw[if_neg fun q=>c1 (m1.1 q)]
  by_cases c2:(d.now.cabins.cabins.any fun c=>c.deck==a&&c.place==b)=true
  ·rw[if_pos c2,e1.trans (if_pos (.inr (.inr (.inr (.inr (.inr (.inr c2)))))))];exact .no (-22) (by decide) rfl rfl
  ·have c12:¬(20 < a∨500 < b∨3 < k∨n=0∨6 < n∨1 < f∨(d.now.cabins.cabins.any fun c=>c.deck==a&&c.place==b)=true):=by
    intro q
    rcases q with q |q |q |q |q |q |q
    ·exact c1 (.inl q)
    ·exact c1 (.inr (.inl q))
    ·exact c1 (.inr (.inr (.inl q)))
    ·exact c1 (.inr (.inr (.inr (.inl q))))
    ·exact c1 (.inr (.inr (.inr (.inr (.inl q)))))
    ·exact c1 (.inr (.inr (.inr (.inr (.inr q)))))
    ·exact c2 q
   rw[if_neg c2];rw[if_neg c12] at e1;rw[e1]
   by_cases c3:Km437.CABINS≤d.now.cabins.cabins.length
   ·have c3':12≤d.now.cabins.cabins.length:=c3;rw[if_pos c3,if_pos (show d.now.cabins.cabins.length=12 by omega)];exact .no (-28) (by decide) rfl rfl
   ·have c3':¬12≤d.now.cabins.cabins.length:=c3;rw[if_neg c3,if_neg (show ¬d.now.cabins.cabins.length=12 by omega)]
    refine .yes { d.now with cabins:={ d.now.cabins with cabins:=d.now.cabins.cabins++[⟨a,b,k,n,f==1,false⟩] } } (only ((d.now.cabins.cabins.length:Nat):Int)) (Int.natCast_nonneg _) (if_neg (show ¬(((d.now.cabins.cabins.length:Nat):Int) < 0) by omega)) rfl ?_
    refine h.aF (m':={ d.now with cabins:={ d.now.cabins with cabins:=d.now.cabins.cabins++[⟨a,b,k,n,f==1,false⟩] } }) rfl rfl rfl ?_ h.aboard
    exact { p with
     cabins:=by
      show V.aF.cabins++[_]=(d.now.cabins.cabins++[_]).map HX;rw[p.cabins,List.map_append];congr 1
      show [(⟨_,_,_,_,(f:Int)⟩:Cabin)]=[⟨_,_,_,_,if (f==1)=true then 1 else 0⟩]
      have :f=0∨f=1:=by omega
      rcases this with rfl |rfl <;> rfl
     shut:=fun c hc=>by
      rcases List.mem_append.mp hc with q |q
      ·exact p.shut c q
      ·rw[List.mem_singleton.mp q]
     DC:=by
      show(d.now.cabins.cabins++[_]).length≤12;rw[List.length_append];show d.now.cabins.cabins.length+1≤12;omega
     parties:=fun i x q h1 h2=>by
      obtain⟨a,b,c,d,e⟩:=p.parties i x q h1 h2;exact⟨a,b,c,d,e⟩ }
theorem DU{c:Km440.Call}{v:Int}(hv:v < 0)(h:(Km440.act ⟨d.now.gang,[],[]⟩ c).2=Km440.only v):d.gangs c=(d,only v):=by
 unfold Desk.gangs;simp only[];rw[h,if_pos (show(Km440.only v).value < 0 from hv)];rfl
theorem HE{c:Km440.Call}{s:Km440.Ship}{v:Int}{o:List Nat}(hv:0≤v)(h:Km440.act ⟨d.now.gang,[],[]⟩ c=(Km440.Desk.become ⟨d.now.gang,[],[]⟩ s,⟨v,o⟩)):d.gangs c=(d.become { d.now with gang:=s },⟨v,o⟩):=by
 unfold Desk.gangs;simp only[];rw[h,if_neg (show ¬v < 0 by omega)];rfl
theorem qv(h:Sim V d.now):gP V.way=true↔d.now.inPort=false:=by
 rw[h.w.sea];cases d.now.inPort <;> simp
theorem Ar(h:Sim V d.now)(o:Nat):oB d (act d (.gate o)) V (vG V o):=by
 have p:=h.p;obtain⟨g,hg,ho,hout,hin,l1,l2⟩:=p.gate
 have e0:act d (.gate o)=if 1 < o then(d,only (-22)) else if o=1∧d.now.inPort=false then(d,only (-16)) else d.gangs (.open_ 0 o):=rfl
 have hg0:d.now.gang.gate 0=g:=by unfold Km440.Ship.gate;rw[hg];rfl
 have e1:Km440.act ⟨d.now.gang,[],[]⟩ (.open_ 0 o)=if d.now.gang.gates.length≤0 then(⟨d.now.gang,[],[]⟩,Km440.only (-2)) else if 1 < o then(⟨d.now.gang,[],[]⟩,Km440.only (-22)) else if (d.now.gang.gate 0).open_=(o==1) then(⟨d.now.gang,[],[]⟩,Km440.only (-17)) else(Km440.Desk.become ⟨d.now.gang,[],[]⟩ (d.now.gang.setGate 0 { d.now.gang.gate 0 with open_:=o==1 }),Km440.only (((d.now.gang.gates.filter fun x=>x.open_).length:Nat):Int)):=rfl
 have hs:=qv h;rw[e0];unfold vG
 by_cases c1:1 < o
 ·rw[if_pos c1,if_pos (by omega)];exact .no (-22) (by decide) rfl rfl
 ·rw[if_neg c1,if_neg (show ¬(o:Int) > 1 by omega)]
  by_cases c2:o=1∧d.now.inPort=false
  ·rw[if_pos c2,if_pos ⟨by omega,hs.2 c2.2⟩];exact .no (-16) (by decide) rfl rfl
  ·rw[if_neg c2,if_neg (fun q=>c2 ⟨by omega,hs.1 q.2⟩)];rw[if_neg (show ¬d.now.gang.gates.length≤0 by rw[hg,List.length_singleton];omega),if_neg c1,hg0] at e1;have m:V.aF.gate=(o:Int)↔g.open_=(o==1):=by
    rw[ho];have :o=0∨o=1:=by omega
    rcases this with rfl |rfl <;> cases g.open_ <;> decide
   by_cases c3:g.open_=(o==1)
   ·rw[if_pos (m.2 c3)];exact .no (-17) (by decide) rfl (DU (by decide) (by rw[e1,if_pos c3]))
   ·rw[if_neg fun q=>c3 (m.1 q)]
    have hb:((d.now.gang.gates.filter fun x=>x.open_).length:Nat)=if g.open_=true then 1 else 0:=by
     rw[hg];cases hq:g.open_ <;> simp[hq]
    refine .yes _ _ (Int.natCast_nonneg _) (HE (Int.natCast_nonneg _) (by rw[e1,if_neg c3];rfl)) ?_ ?_
    ·show [V.aF.gate]=[((_:Nat):Int)];rw[hb,ho];cases g.open_ <;> rfl
    ·refine h.aF (m':={ d.now with gang:=d.now.gang.setGate 0 { g with open_:=o==1 } }) rfl rfl rfl ?_ h.aboard
     exact { p with
      gate:=by
       refine⟨{ g with open_:=o==1 },?_,?_,hout,hin,l1,l2⟩
       ·show d.now.gang.gates.set 0 _=_;rw[hg];rfl
       ·show(o:Int)=if (o==1)=true then 1 else 0
        have :o=0∨o=1:=by omega
        rcases this with rfl |rfl <;> rfl
      parties:=fun i x q h1 h2=>by
       obtain⟨a,b,c,d,e⟩:=p.parties i x q h1 h2;exact⟨a,b,c,d,e⟩ }
theorem dY.CP{P:cZ}{m:Machine}(p:dY P m):P.persons.length=m.gang.persons.length:=by rw[p.persons,List.length_map,List.length_range]
theorem tf(h:Sim V d.now):oB d (act d .drill) V (sB V):=by
 have p:=h.p
 have e0:act d .drill=if (Km441.act d.now.muster .drill).2.value < 0 then(d,only (Km441.act d.now.muster .drill).2.value) else(d.become { d.now with muster:=(Km441.act d.now.muster .drill).1 },only (Km441.act d.now.muster .drill).2.value):=rfl
 have e1:Km441.act d.now.muster .drill=if Km441.DRILLS≤d.now.muster.drill then(d.now.muster,Km441.only (-28)) else(d.now.muster.fresh (d.now.muster.drill+1),Km441.only ((d.now.muster.drill+1:Nat):Int)):=rfl
 have h1:=p.lL;have h2:=p.drill;rw[e0];unfold sB;rw[h2]
 by_cases c1:Km441.DRILLS≤d.now.muster.drill
 ·have c1':1000≤d.now.muster.drill:=c1;rw[e1,if_pos c1,if_pos (show((d.now.muster.drill:Nat):Int)=1000 by omega)];exact .no (-28) (by decide) rfl rfl
 ·have c1':¬1000≤d.now.muster.drill:=c1;rw[e1,if_neg c1,if_neg (show ¬((d.now.muster.drill:Nat):Int)=1000 by omega)]
  refine .yes { d.now with muster:=d.now.muster.fresh (d.now.muster.drill+1) } (only ((d.now.muster.drill+1:Nat):Int)) (Int.natCast_nonneg _) (if_neg (show ¬(((d.now.muster.drill+1:Nat):Int) < 0) by omega)) ?_ ?_
  ·show [((d.now.muster.drill:Nat):Int)+1]=[((d.now.muster.drill+1:Nat):Int)];push_cast;rfl
  ·have hk:∀x,(d.now.muster.fresh (d.now.muster.drill+1)).know x=0:=by
    intro x;show(List.replicate 16 0).getD x 0=0;rw[List.getD_eq_getElem?_getD,List.getElem?_replicate]
    split <;> rfl
   refine h.aF (m':={ d.now with muster:=d.now.muster.fresh (d.now.muster.drill+1) }) rfl rfl rfl ?_ h.aboard
   exact { p with
    bR:=by
     show V.aF.persons.map (fun _=>(-1:Int))=(List.range d.now.gang.persons.length).map fun x=>qI ((d.now.muster.fresh (d.now.muster.drill+1)).know x);rw[p.persons,List.map_map];refine List.map_congr_left fun x _=>?_;rw[hk];rfl
    seen:=by show(List.replicate 16 0).length=16;exact List.length_replicate
    pT:=fun x _=>hk x
    know:=fun x=>.inl (hk x)
    drill:=by show V.aF.drill+1=((d.now.muster.drill+1:Nat):Int);rw[h2];push_cast;rfl
    lL:=by show d.now.muster.drill+1≤1000;omega
    parties:=fun i x q h1 h2=>by
     obtain⟨a,b,c,d,e⟩:=p.parties i x q h1 h2;exact⟨a,b,c,d,e⟩ }
theorem rB{n m:Nat}{f g:Nat→Bool}(hn:n=m)(h:∀p,p < n→f p=g p):(List.range n).filter f=(List.range m).filter g:=by
 subst hn;exact gT h
variable{P:cZ}{m:Machine}
theorem dY.CO(p:dY P m):P.aM.length=m.gang.persons.length:=by rw[p.aM,List.length_map]
theorem sM{s:Km440.Ship}{k:Nat}(h:k < s.persons.length):s.persons[k]? =some (s.person k):=by
 unfold Km440.Ship.person;rw[List.getD_eq_getElem?_getD,List.getElem?_eq_getElem h];rfl
theorem dY.CA(p:dY P m){k:Nat}(h:k < m.gang.persons.length):P.aM.getD k 0=eO (m.gang.person k):=by
 rw[p.aM,List.getD_eq_getElem?_getD,List.getElem?_map,sM h];rfl
theorem dl(x:Km440.Person):decide (eO x=0)=(!x.gone&&!x.ashore):=by
 unfold eO;cases x.gone <;> cases x.ashore <;> rfl
theorem Ej(x:Km440.Person):decide (eO x=1)=(!x.gone&&x.ashore):=by
 unfold eO;cases x.gone <;> cases x.ashore <;> rfl
theorem jp(x:Km440.Person):decide (eO x=2)=x.gone:=by
 unfold eO;cases x.gone <;> cases x.ashore <;> rfl
theorem dY.here(p:dY P m):fB P 0=m.gang.here:=by
 unfold fB Km440.Ship.here;refine rB p.CO fun k hk=>?_;rw[p.CO] at hk;rw[p.CA hk,dl,al hk]
theorem dY.away(p:dY P m):fB P 1=m.gang.missing:=by
 rw[L5 p.novis];unfold fB Km440.Ship.away;refine rB p.CO fun k hk=>?_;rw[p.CO] at hk;rw[p.CA hk,Ej,al hk]
theorem dY.mins(p:dY P m){k:Nat}(h:k < m.gang.persons.length):P.bR.getD k 0=qI (m.muster.know k):=by
 rw[p.bR,List.getD_eq_getElem?_getD,List.getElem?_map,List.getElem?_range h];rfl
theorem za(k:Nat):decide (qI k= -1)=(k==0):=by
 unfold qI
 by_cases c:k=0
 ·subst c;rfl
 ·rw[if_neg c,decide_eq_false (by omega),beq_eq_false_iff_ne.mpr c]
theorem Gh{s:Km440.Ship}{k:Nat}(h:k∈s.here):k < s.persons.length:=List.mem_range.mp (List.mem_filter.mp h).1
theorem dY.search(p:dY P m):nM P=m.search:=by
 unfold nM Machine.search;rw[p.here];refine List.filter_congr fun k hk=>?_;rw[p.mins (Gh hk),za]
theorem dY.kH(p:dY P m)(k:Nat):fN P (k:Nat)=m.gang.is k:=by
 unfold fN Km440.Ship.is;rw[p.CP]
 by_cases c:k < m.gang.persons.length
 ·rw[decide_eq_true (show((k:Nat):Int) < ((m.gang.persons.length:Nat):Int) by omega),decide_eq_true c,Int.toNat_natCast,p.CA c,jp]
 ·rw[decide_eq_false (show ¬((k:Nat):Int) < ((m.gang.persons.length:Nat):Int) by omega),decide_eq_false c];rfl
theorem LL{s:Km440.Ship}{k:Nat}(h:s.is k=true):k < s.persons.length∧(s.person k).gone=false:=by
 unfold Km440.Ship.is at h;rw[Bool.and_eq_true,decide_eq_true_iff,Bool.not_eq_true'] at h;exact h
theorem is_and'{s:Km440.Ship}{k:Nat}(h1:k < s.persons.length)(h2:(s.person k).gone=false):s.is k=true:=by
 unfold Km440.Ship.is;rw[decide_eq_true h1,h2];rfl
theorem dY.ashore(p:dY P m){k:Nat}(h:m.gang.is k=true):P.aM.getD k 0=1↔(m.gang.person k).ashore=true:=by
 obtain⟨h1,h2⟩:=LL h;rw[p.CA h1];unfold eO;rw[h2];cases (m.gang.person k).ashore <;> simp
theorem Gy(h:Sim V d.now)(k:Nat):oB d (act d (.in_ k)) V (QZ V k):=by
 have p:=h.p
 have e0:act d (.in_ k)=if d.now.gang.is k=false then(d,only (-2)) else if (d.now.gang.person k).ashore=true then(d,only (-16)) else
   if (Km441.act d.now.muster (.in_ k)).2.value < 0 then(d,only (Km441.act d.now.muster (.in_ k)).2.value) else(d.become { d.now with muster:=(Km441.act d.now.muster (.in_ k)).1 },only ((({ d.now with muster:=(Km441.act d.now.muster (.in_ k)).1 }:Machine).search.length:Nat):Int)):=rfl
 have e1:Km441.act d.now.muster (.in_ k)=if Km441.PERSONS≤k then(d.now.muster,Km441.only (-2)) else if d.now.muster.drill=0 then(d.now.muster,Km441.only (-6)) else if 8*d.now.muster.minute+d.now.muster.me+1≤d.now.muster.know k then(d.now.muster,Km441.only (-17)) else({ d.now.muster with seen:=d.now.muster.seen.set k (8*d.now.muster.minute+d.now.muster.me+1) },Km441.only ((d.now.muster.know k:Nat):Int)):=rfl
 rw[e0];unfold QZ;simp only[];rw[p.kH k]
 by_cases c1:d.now.gang.is k=false
 ·rw[if_pos c1,if_pos c1];exact .no (-2) (by decide) rfl rfl
 ·rw[if_neg c1,if_neg c1];have c1':d.now.gang.is k=true:=by simpa using c1
  obtain⟨hk,hng⟩:=LL c1';have ha:=p.ashore c1';rw[Int.toNat_natCast]
  by_cases c2:(d.now.gang.person k).ashore=true
  ·rw[if_pos c2,if_pos (ha.2 c2)];exact .no (-16) (by decide) rfl rfl
  ·rw[if_neg c2,if_neg fun q=>c2 (ha.1 q)];have h16:=p.QR;have hme:=p.me;have hmin:=p.minute;have hd:=p.drill;rw[if_neg (show ¬Km441.PERSONS≤k by show ¬16≤k;omega)] at e1
   by_cases c3:d.now.muster.drill=0
   ·rw[if_pos c3] at e1;rw[e1,if_pos (show V.aF.drill=0 by rw[hd];omega)];exact .no (-6) (by decide) rfl rfl
   ·rw[if_neg c3] at e1;rw[if_neg (show ¬V.aF.drill=0 by rw[hd];omega),p.mins hk,h.w.hour];have mm:qI (d.now.muster.know k)≥((d.now.water.hour:Nat):Int)*60↔8*d.now.muster.minute+d.now.muster.me+1≤d.now.muster.know k:=by
     rw[hme,hmin];unfold qI
     rcases p.know k with q |⟨t,ht,q⟩
     ·rw[q,if_pos rfl];omega
     ·rw[q,if_neg (by omega)];omega
    by_cases c4:8*d.now.muster.minute+d.now.muster.me+1≤d.now.muster.know k
    ·rw[if_pos c4] at e1;rw[e1,if_pos (mm.2 c4)];exact .no (-17) (by decide) rfl rfl
    ·rw[if_neg c4] at e1;rw[e1,if_neg (fun q=>c4 (mm.1 q))];have hs:=p.seen
     have hkn:∀x,({ d.now.muster with seen:=d.now.muster.seen.set k (8*d.now.muster.minute+d.now.muster.me+1) }:Km441.Station).know x=if x=k then 8*(60*d.now.water.hour)+1 else d.now.muster.know x:=by
      intro x;unfold Km441.Station.know;show(d.now.muster.seen.set k _).getD x 0=_;rw[List.getD_eq_getElem?_getD,List.getElem?_set]
      by_cases cx:k=x
      ·subst cx;rw[if_pos rfl,if_pos (by omega),if_pos rfl,hme,hmin];rfl
      ·rw[if_neg cx,if_neg (fun q=>cx q.symm),List.getD_eq_getElem?_getD]
     have np:dY { V.aF with bR:=V.aF.bR.set k (((d.now.water.hour:Nat):Int)*60) } { d.now with muster:={ d.now.muster with seen:=d.now.muster.seen.set k (8*d.now.muster.minute+d.now.muster.me+1) } }:={ p with
      bR:=by
       show V.aF.bR.set k _=(List.range d.now.gang.persons.length).map fun x=>qI (({ d.now.muster with seen:=_ }:Km441.Station).know x)
       rw[p.bR];refine List.ext_getElem? fun i=>?_;rw[List.getElem?_set,List.getElem?_map,List.getElem?_map]
       by_cases ci:i < d.now.gang.persons.length
       ·rw[List.getElem?_range ci];simp only[Option.map_some];rw[hkn]
        by_cases cx:k=i
        ·subst cx;rw[if_pos rfl,if_pos rfl,List.length_map,List.length_range,if_pos hk];unfold qI;rw[if_neg (by omega)];congr 1;omega
        ·rw[if_neg cx,if_neg (fun q=>cx q.symm)]
       ·rw[List.getElem?_eq_none (by rw[List.length_range];omega)];rw[if_neg (by omega)];rfl
      seen:=by show(d.now.muster.seen.set k _).length=16;rw[List.length_set];exact hs
      pT:=fun x hx=>by
       show Km441.Station.know _ x=0;rw[hkn,if_neg (show ¬x=k by have :d.now.gang.persons.length≤x:=hx;omega)];exact p.pT x hx
      know:=fun x=>by
       show Km441.Station.know _ x=0∨∃t,t≤d.now.water.hour∧Km441.Station.know _ x=_;rw[hkn]
       by_cases cx:x=k
       ·rw[if_pos cx];exact .inr ⟨_,Nat.le_refl _,rfl⟩
       ·rw[if_neg cx];exact p.know x
      parties:=fun i x q h1 h2=>by
       obtain⟨a,b,c,d,e⟩:=p.parties i x q h1 h2;exact⟨a,b,c,d,e⟩ }
     refine .yes _ _ (Int.natCast_nonneg _) (if_neg (show ¬((d.now.muster.know k:Nat):Int) < 0 by omega)) ?_ ?_
     ·show [(((nM _).length:Nat):Int)]=[((_:Nat):Int)];rw[np.search]
     ·exact h.aF rfl rfl rfl np h.aboard
end
section
variable{V:aU}{d:Desk}{P:cZ}{m:Machine}
theorem E2(f:Nat→Bool)(c:Nat):∀n:Nat,(List.range n).find? (fun p=>f p&&p==c)=if c < n∧f c=true then some c else none
 |0=>by simp
 |n+1=>by
  rw[List.range_succ,List.find?_append,E2 f c n]
  by_cases h1:c < n∧f c=true
  ·rw[if_pos h1,if_pos ⟨by omega,h1.2⟩];rfl
  ·rw[if_neg h1]
   by_cases h2:c=n
   ·subst h2
    by_cases h3:f c=true
    ·rw[if_pos ⟨by omega,h3⟩];simp[h3]
    ·rw[if_neg fun q=>h3 q.2];simp[h3]
   ·rw[if_neg fun q=>h1 ⟨by omega,q.2⟩];have :(n==c)=false:=beq_eq_false_iff_ne.mpr fun q=>h2 q.symm;simp[this]
theorem dY.holder(p:dY P m)(c:Nat):m.gang.holder c=if m.gang.is c=true then some c else none:=by
 unfold Km440.Ship.holder;have e:(List.range m.gang.persons.length).find? (fun q=>m.gang.is q&&(m.gang.person q).card==c)=(List.range m.gang.persons.length).find? (fun q=>m.gang.is q&&q==c):=by
  refine CSB.find_congr' fun q hq=>?_;have:=(p.card q _ (sM hq)).1;rw[this]
 rw[e,E2]
 by_cases c1:m.gang.is c=true
 ·rw[if_pos ⟨(LL c1).1,c1⟩,if_pos c1]
 ·rw[if_neg fun q=>c1 q.2,if_neg c1]
theorem dY.gang(p:dY P m){G:Km440.Ship}{C:Km437.Ship}{P':cZ}
  (hlen:G.persons.length=m.gang.persons.length) (hcards:G.cards=m.gang.cards) (hmost:G.most=m.gang.most)
  (hper:∀k,(G.person k).card=(m.gang.person k).card∧(G.person k).visitor=(m.gang.person k).visitor∧(G.person k).with_=(m.gang.person k).with_)
  (hC1:C.cabins=m.cabins.cabins) (hC2:C.parties.length=m.cabins.parties.length)
  (p1:P'.most=P.most) (p2:P'.cabins=P.cabins) (p3:P'.parties=P.parties) (p4:P'.persons=P.persons) (p5:P'.bR=P.bR) (p6:P'.drill=P.drill)
  (hst:P'.aM=G.persons.map eO)
  (hgate:∃g:Km440.Gate,G.gates=[g]∧P'.gate=(if g.open_=true then 1 else 0)∧P'.iH=(g.out_:Nat)∧P'.jK=(g.in_:Nat)∧g.out_≤100000∧g.in_≤100000)
  (hrung:P'.eJ=(G.rung:Nat)) (hr5:G.rung≤100000)
  (hparties:∀(i:Nat) (x:Party) (q:Km437.Party),P.parties[i]? =some x→C.parties[i]? =some q→B0 x q i { m with gang:=G,cabins:=C }):
  dY P' { m with gang:=G,cabins:=C }:=
 {most:=by rw[p1];show P.most=((G.most:Nat):Int);rw[hmost];exact p.most
  wJ:=by show G.most≤16;rw[hmost];exact p.wJ
  cabins:=by rw[p2];show P.cabins=C.cabins.map HX;rw[hC1];exact p.cabins
  shut:=by show ∀c∈C.cabins,_;rw[hC1];exact p.shut
  DC:=by show C.cabins.length≤12;rw[hC1];exact p.DC
  aM:=hst
  QR:=by show G.persons.length≤16;rw[hlen];exact p.QR
  cards:=by show G.cards=G.persons.length;rw[hlen,hcards];exact p.cards
  card:=fun i x hx=>by
   have hi:i < G.persons.length:=(List.getElem?_eq_some_iff.mp hx).1;have e:G.person i=x:=Option.some.inj ((sM hi).symm.trans hx);obtain⟨a,b,_⟩:=hper i;have:=p.card i _ (sM (hlen▸hi));rw[←e,a,b];exact this
  FY:=by show m.party.length=G.persons.length;rw[hlen];exact p.FY
  DP:=by show ∀x,x < G.persons.length→_ < C.parties.length;rw[hlen,hC2];exact p.DP
  persons:=by
   rw[p4,p.persons];show _=(List.range G.persons.length).map fun x=>(⟨_,(G.person x).with_.isSome⟩:Person);rw[hlen];refine List.map_congr_left fun x _=>?_;rw[(hper x).2.2]
  bR:=by rw[p5];show P.bR=(List.range G.persons.length).map _;rw[hlen];exact p.bR
  seen:=p.seen
  pT:=by show ∀x,G.persons.length≤x→_;rw[hlen];exact p.pT
  know:=p.know
  me:=p.me
  minute:=p.minute
  drill:=by rw[p6];exact p.drill
  lL:=p.lL
  gate:=hgate
  rung:=hrung
  wW:=hr5
  kR:=by rw[p3];show _=C.parties.length;rw[hC2];exact p.kR
  BW:=by show C.parties.length≤8;rw[hC2];exact p.BW
  parties:=by rw[p3];exact hparties }
theorem G5{s:Km440.Ship}{k:Nat}(x:Km440.Person)(h:k < s.persons.length)(j:Nat):(s.persons.set k x).getD j ⟨0,none,false,0,none,true⟩=if j=k then x else s.person j:=by
 unfold Km440.Ship.person;rw[List.getD_eq_getElem?_getD,List.getElem?_set,List.getD_eq_getElem?_getD]
 by_cases c:j=k
 ·subst c;rw[if_pos rfl,if_pos h,if_pos rfl];rfl
 ·rw[if_neg (fun q=>c q.symm),if_neg c]
theorem dY.moved(p:dY P m){k:Nat}{x:Km440.Person}{g:Km440.Gate}{P':cZ}(hk:k < m.gang.persons.length)
  (h1:x.card=(m.gang.person k).card) (h2:x.visitor=(m.gang.person k).visitor) (h3:x.with_=(m.gang.person k).with_) (h4:x.gone=(m.gang.person k).gone)
  (p1:P'.most=P.most) (p2:P'.cabins=P.cabins) (p3:P'.parties=P.parties) (p4:P'.persons=P.persons) (p5:P'.bR=P.bR) (p6:P'.drill=P.drill) (p7:P'.eJ=P.eJ)
  (hst:P'.aM=P.aM.set k (eO x)) (hg:P'.gate=(if g.open_=true then 1 else 0)∧P'.iH=(g.out_:Nat)∧P'.jK=(g.in_:Nat)∧g.out_≤100000∧g.in_≤100000) {g0:Km440.Gate} (hg0:m.gang.gates=[g0]):
  dY P' { m with gang:=(m.gang.set k x).setGate 0 g }:=by
 have hp:∀j,((m.gang.set k x).setGate 0 g).person j=if j=k then x else m.gang.person j:=fun j=>G5 x hk j
 refine p.gang (G:=(m.gang.set k x).setGate 0 g) (C:=m.cabins) (List.length_set) rfl rfl (fun j=>?_) rfl rfl p1 p2 p3 p4 p5 p6 ?_ ?_ ?_ p.wW fun i a b q1 q2=>?_
 ·rw[hp]
  by_cases c:j=k
  ·rw[if_pos c,c];exact⟨h1,h2,h3⟩
  ·rw[if_neg c];exact⟨rfl,rfl,rfl⟩
 ·rw[hst,p.aM];show _=(m.gang.persons.set k x).map eO;rw[List.map_set]
 ·refine⟨g,?_,hg⟩;show m.gang.gates.set 0 g=[g];rw[hg0];rfl
 ·rw[p7];exact p.rung
 ·obtain⟨a1,a2,a3,a4,f,b1,b2,b3,b4,b5,b6⟩:=p.parties i a b q1 q2;have hl:((m.gang.set k x).setGate 0 g).persons.length=m.gang.persons.length:=List.length_set;refine⟨a1,a2,a3,a4,f,b1,?_,?_,?_,?_,?_⟩
  ·show f+b.many≤((m.gang.set k x).setGate 0 g).persons.length;rw[hl];exact b2
  ·show ∀y,y < ((m.gang.set k x).setGate 0 g).persons.length→_;rw[hl];exact b3
  ·intro y y1 y2;show(((m.gang.set k x).setGate 0 g).person y).gone=_;rw[hp]
   by_cases c:y=k
   ·rw[if_pos c,h4,←c];exact b4 y y1 y2
   ·rw[if_neg c];exact b4 y y1 y2
  ·intro y z y1 y2;show(((m.gang.set k x).setGate 0 g).person y).with_=_→_;rw[hp]
   by_cases c:y=k
   ·rw[if_pos c,h3,←c];exact b5 y z y1 y2
   ·rw[if_neg c];exact b5 y z y1 y2
  ·show(((m.gang.set k x).setGate 0 g).person f).with_=_;rw[hp]
   by_cases c:f=k
   ·rw[if_pos c,h3,←c];exact b6
   ·rw[if_neg c];exact b6
theorem oA(m:Machine):m.aboard=(m.gang.persons.map eO).count 0:=ei m.gang
theorem VT{l:List Int}{k:Nat}{a:Int}(h:a≠0):(l.set k a).count 0≤l.count 0:=by
 induction l generalizing k with
 |nil=>simp
 |cons b l ih=>
  cases k with
  |zero=>
   rw[List.set_cons_zero,List.count_cons,List.count_cons];have :(a==0)=false:=beq_eq_false_iff_ne.mpr h;rw[this];simp
  |succ k=>
   rw[List.set_cons_succ,List.count_cons,List.count_cons];have:=ih (k:=k);omega
theorem P4{l:List Int}{k:Nat}{a:Int}:(l.set k a).count 0≤l.count 0+1:=by
 induction l generalizing k with
 |nil=>simp
 |cons b l ih=>
  cases k with
  |zero=>
   rw[List.set_cons_zero,List.count_cons,List.count_cons]
   split <;> split <;> omega
  |succ k=>
   rw[List.set_cons_succ,List.count_cons,List.count_cons];have:=ih (k:=k);omega
theorem YL{x:Km440.Person}(h:x.gone=false):eO x=if x.ashore=true then 1 else 0:=by
 unfold eO;rw[h];rfl
theorem dY.mayGo(p:dY P m){c:Nat}(hc:m.gang.is c=true)(ha:(m.gang.person c).ashore=false):
  ((P.persons.getD c ⟨0,false⟩).ay=true∧P.aM.getD (P.parties.getD (P.persons.getD c ⟨0,false⟩).party.toNat ⟨0,0,0⟩).first.toNat 0≠1)↔m.gang.mayGo c=false:=by
 obtain⟨hk,hg⟩:=LL hc;have hpc:P.persons.getD c ⟨0,false⟩=⟨(m.party.getD c 0:Nat),(m.gang.person c).with_.isSome⟩:=by
  rw[p.persons,List.getD_eq_getElem?_getD,List.getElem?_map,List.getElem?_range hk];rfl
 have hi:=p.DP c hk;rw[hpc];show((m.gang.person c).with_.isSome=true∧P.aM.getD (P.parties.getD ((m.party.getD c 0:Nat):Int).toNat ⟨0,0,0⟩).first.toNat 0≠1)↔_;rw[Int.toNat_natCast];generalize hix:m.party.getD c 0=ix at hi;have hi':ix < P.parties.length:=by rw[p.kR];exact hi
 obtain⟨a1,a2,a3,a4,f,b1,b2,b3,b4,b5,b6⟩:=p.parties ix _ _ (List.getElem?_eq_getElem hi') (List.getElem?_eq_getElem hi);have ef:(P.parties.getD ix ⟨0,0,0⟩).first.toNat=f:=by
  rw[List.getD_eq_getElem?_getD,List.getElem?_eq_getElem hi'];show P.parties[ix].first.toNat=f;rw[b1,Int.toNat_natCast]
 rw[ef];have hin:=(b3 c hk).1 hix;have hgn:=b4 c hin.1 hin.2;have hfi:m.gang.is f=true:=is_and' (by omega) (by rw[b4 f (Nat.le_refl _) (by omega),←hgn];exact hg);have hfa:=p.ashore hfi;unfold Km440.Ship.mayGo;rw[hc,ha]
 cases e:(m.gang.person c).with_ with
 |none=>simp
 |some y=>
  have hy:=b5 c y hin.1 hin.2 e;subst hy;simp only[Option.isSome_some,true_and,Bool.not_false,Bool.true_and];rw[hfi,Bool.true_and];rw[show(P.aM.getD y 0≠1↔(m.gang.person y).ashore=false) from by
   rw[ne_eq,hfa];cases (m.gang.person y).ashore <;> simp]
theorem Aa(h:Sim V d.now)(c:Nat):oB d (act d (.scan c)) V (tD V c):=by
 have p:=h.p;obtain⟨g,hg,ho,hout,hin,l1,l2⟩:=p.gate;have hg0:d.now.gang.gate 0=g:=by unfold Km440.Ship.gate;rw[hg];rfl
 have e0:act d (.scan c)=d.gangs (.scan 0 c):=rfl
 have e1:Km440.act ⟨d.now.gang,[],[]⟩ (.scan 0 c)=if d.now.gang.gates.length≤0 then(⟨d.now.gang,[],[]⟩,Km440.only (-2)) else if (d.now.gang.gate 0).open_=false then(⟨d.now.gang,[],[]⟩,Km440.only (-16)) else if Km440.LATEST≤d.now.gang.rung∨Km440.LATEST≤(d.now.gang.gate 0).out_∨Km440.LATEST≤(d.now.gang.gate 0).in_ then(⟨d.now.gang,[],[]⟩,Km440.only (-28)) else match d.now.gang.holder c with
   |none=>(Km440.Desk.become ⟨d.now.gang,[],[]⟩ { d.now.gang with rung:=d.now.gang.rung+1 },⟨(2:Int),[0]⟩)
   |some p=>
    if (d.now.gang.person p).ashore=true then(if d.now.gang.most≤d.now.gang.here.length then(⟨d.now.gang,[],[]⟩,Km440.only (-62)) else
     (Km440.Desk.become ⟨d.now.gang,[],[]⟩ ((d.now.gang.set p { d.now.gang.person p with ashore:=false,since:=d.now.gang.time }).setGate 0 { d.now.gang.gate 0 with in_:=(d.now.gang.gate 0).in_+1 }),⟨(1:Int),[p]⟩))
    else if d.now.gang.mayGo p=false then(⟨d.now.gang,[],[]⟩,Km440.only (-33)) else
     (Km440.Desk.become ⟨d.now.gang,[],[]⟩ ((d.now.gang.set p { d.now.gang.person p with ashore:=true,since:=d.now.gang.time }).setGate 0 { d.now.gang.gate 0 with out_:=(d.now.gang.gate 0).out_+1 }),⟨(0:Int),[p]⟩):=rfl
 rw[if_neg (show ¬d.now.gang.gates.length≤0 by rw[hg,List.length_singleton];omega),hg0,p.holder c] at e1;have hr:=p.rung;have hr5:=p.wW;rw[e0];unfold tD;simp only[]
 by_cases c1:g.open_=false
 ·rw[if_pos (show V.aF.gate=0 by rw[ho,c1];rfl)];exact .no (-16) (by decide) rfl (DU (by decide) (by rw[e1,if_pos c1]))
 ·have c1':g.open_=true:=by simpa using c1
  rw[if_neg (show ¬V.aF.gate=0 by rw[ho,c1'];decide)];rw[if_neg c1] at e1
  by_cases c2:Km440.LATEST≤d.now.gang.rung∨Km440.LATEST≤g.out_∨Km440.LATEST≤g.in_
  ·have c2':100000≤d.now.gang.rung∨100000≤g.out_∨100000≤g.in_:=c2;rw[if_pos (show 100000=V.aF.iH∨100000=V.aF.jK∨100000=V.aF.eJ by rw[hout,hin,hr];omega)];exact .no (-28) (by decide) rfl (DU (by decide) (by rw[e1,if_pos c2]))
  ·have c2':¬(100000≤d.now.gang.rung∨100000≤g.out_∨100000≤g.in_):=c2;rw[if_neg (show ¬(100000=V.aF.iH∨100000=V.aF.jK∨100000=V.aF.eJ) by rw[hout,hin,hr];omega)];rw[if_neg c2] at e1;rw[p.kH c]
   by_cases c3:d.now.gang.is c=true
   ·rw[if_pos c3] at e1;simp only[] at e1;obtain⟨hk,hng⟩:=LL c3;have ha:=p.ashore c3;rw[if_neg (show ¬d.now.gang.is c=false by rw[c3];decide),Int.toNat_natCast]
    by_cases c4:(d.now.gang.person c).ashore=true
    ·rw[if_pos c4] at e1;rw[if_pos (ha.2 c4)];have hcnt:=p.count;have hmost:=p.most
     by_cases c5:d.now.gang.most≤d.now.gang.here.length
     ·rw[if_pos c5] at e1;rw[if_pos (show cB V.aF≥V.aF.most by rw[hcnt,hmost];have :d.now.gang.most≤d.now.aboard:=c5;omega)];exact .no (-62) (by decide) rfl (DU (by decide) (by rw[e1]))
     ·rw[if_neg c5] at e1;rw[if_neg (show ¬cB V.aF≥V.aF.most by rw[hcnt,hmost];have :¬d.now.gang.most≤d.now.aboard:=c5;omega)];refine .yes _ _ (show(0:Int)≤1 by decide) (HE (by decide) e1) rfl ?_
      refine h.aF (P:={ V.aF with aM:=V.aF.aM.set c 0,jK:=V.aF.jK+1 }) rfl rfl rfl (p.moved (x:={ d.now.gang.person c with ashore:=false,since:=d.now.gang.time }) (g:={ g with in_:=g.in_+1 }) hk rfl rfl rfl rfl rfl rfl rfl rfl rfl rfl rfl ?_ ?_ hg) ?_
      ·show V.aF.aM.set c 0=V.aF.aM.set c (eO _);rw[YL (by exact hng)];rfl
      ·refine⟨ho,hout,?_,l1,?_⟩
       ·show V.aF.jK+1=((g.in_+1:Nat):Int);rw[hin];push_cast;rfl
       ·show g.in_+1≤100000;omega
      ·rw[oA];show((d.now.gang.persons.set c _).map eO).count 0≤d.now.gang.most;have c5':¬d.now.gang.most≤d.now.aboard:=c5;rw[oA] at c5';rw[List.map_set];refine Nat.le_trans P4 ?_;omega
    ·rw[if_neg c4] at e1;have c4':(d.now.gang.person c).ashore=false:=by simpa using c4
     rw[if_neg fun q=>c4 (ha.1 q)];have hm:=p.mayGo c3 c4'
     by_cases c5:d.now.gang.mayGo c=false
     ·rw[if_pos c5] at e1;rw[if_pos (hm.2 c5)];exact .no (-33) (by decide) rfl (DU (by decide) (by rw[e1]))
     ·rw[if_neg c5] at e1;rw[if_neg fun q=>c5 (hm.1 q)];refine .yes _ _ (show(0:Int)≤0 by decide) (HE (by decide) e1) rfl ?_
      refine h.aF (P:={ V.aF with aM:=V.aF.aM.set c 1,iH:=V.aF.iH+1 }) rfl rfl rfl (p.moved (x:={ d.now.gang.person c with ashore:=true,since:=d.now.gang.time }) (g:={ g with out_:=g.out_+1 }) hk rfl rfl rfl rfl rfl rfl rfl rfl rfl rfl rfl ?_ ?_ hg) ?_
      ·show V.aF.aM.set c 1=V.aF.aM.set c (eO _);rw[YL (by exact hng)];rfl
      ·refine⟨ho,?_,hin,?_,l2⟩
       ·show V.aF.iH+1=((g.out_+1:Nat):Int);rw[hout];push_cast;rfl
       ·show g.out_+1≤100000;omega
      ·have ha0:=h.aboard;rw[oA] at ha0 ⊢;show((d.now.gang.persons.set c _).map eO).count 0≤d.now.gang.most;rw[List.map_set];refine Nat.le_trans (VT ?_) ha0;rw[YL (by exact hng)];show(1:Int)≠0;decide
   ·rw[if_neg c3] at e1;simp only[] at e1;have c3':d.now.gang.is c=false:=by simpa using c3
    rw[if_pos c3'];refine .yes _ _ (by decide) (HE (by decide) e1) rfl ?_
    refine h.aF (P:={ V.aF with eJ:=V.aF.eJ+1 }) (m':={ d.now with gang:={ d.now.gang with rung:=d.now.gang.rung+1 } }) rfl rfl rfl ?_ h.aboard
    exact { p with
     rung:=by show V.aF.eJ+1=((d.now.gang.rung+1:Nat):Int);rw[hr];push_cast;rfl
     wW:=by show d.now.gang.rung+1≤100000;omega
     parties:=fun i x q h1 h2=>by
      obtain⟨a,b,c,d,e⟩:=p.parties i x q h1 h2;exact⟨a,b,c,d,e⟩ }
theorem AT:∀(n f k:Nat),f+k≤n→(List.range n).filter (fun x=>decide (f≤x∧x < f+k))=(List.range k).map (f+·)
 |0,f,k,h=>by
  have :k=0:=by omega
  subst this;rfl
 |n+1,f,k,h=>by
  rw[List.range_succ,List.filter_append]
  by_cases c:f+k≤n
  ·rw[AT n f k c];have :decide (f≤n∧n < f+k)=false:=decide_eq_false (by omega);rw[List.filter_cons,this];simp
  ·cases k with
   |zero=>
    have e1:∀l:List Nat,l.filter (fun x=>decide (f≤x∧x < f+0))=[]:=fun l=>List.filter_eq_nil_iff.mpr fun x _=>by
     rw[decide_eq_true_iff];omega
    rw[e1,e1];rfl
   |succ k=>
    have hn:n=f+k:=by omega
    have e1:(List.range n).filter (fun x=>decide (f≤x∧x < f+(k+1)))=(List.range n).filter (fun x=>decide (f≤x∧x < f+k)):=gT fun x hx=>by
     by_cases q:f≤x
     ·rw[decide_eq_true (by omega),decide_eq_true (by omega)]
     ·rw[decide_eq_false (by omega),decide_eq_false (by omega)]
    rw[e1,AT n f k (by omega),List.range_succ,List.map_append];have :decide (f≤n∧n < f+(k+1))=true:=decide_eq_true (by omega);simp[List.filter_cons,hn]
theorem dY.tR(p:dY P m){i:Nat}(hi:i < m.cabins.parties.length):B0 (P.parties.getD i ⟨0,0,0⟩) (m.cabins.party i) i m:=by
 have hi':i < P.parties.length:=by rw[p.kR];exact hi
 have:=p.parties i _ _ (List.getElem?_eq_getElem hi') (List.getElem?_eq_getElem hi);have e1:P.parties.getD i ⟨0,0,0⟩=P.parties[i]:=by rw[List.getD_eq_getElem?_getD,List.getElem?_eq_getElem hi'];rfl
 have e2:m.cabins.party i=m.cabins.parties[i]:=by unfold Km437.Ship.party;rw[List.getD_eq_getElem?_getD,List.getElem?_eq_getElem hi];rfl
 rw[e1,e2];exact this
theorem dY.sX(p:dY P m)(i:Nat):fU P (i:Nat)=m.cabins.is i:=by
 unfold fU Km437.Ship.is;rw[p.kR]
 by_cases c:i < m.cabins.parties.length
 ·rw[decide_eq_true (show((i:Nat):Int) < ((m.cabins.parties.length:Nat):Int) by omega),decide_eq_true c,Bool.true_and,Bool.true_and,Int.toNat_natCast];obtain⟨a1,a2,a3,a4,f,b1,b2,b3,b4,b5,b6⟩:=p.tR c;rw[b1,p.kH f];unfold Km440.Ship.is;rw[decide_eq_true (by omega),b4 f (Nat.le_refl _) (by omega),Bool.true_and]
 ·rw[decide_eq_false (show ¬((i:Nat):Int) < ((m.cabins.parties.length:Nat):Int) by omega),decide_eq_false c];rfl
theorem dY.ofParty(p:dY P m){i:Nat}(hi:i < m.cabins.parties.length):
  ∃f:Nat,(P.parties.getD i ⟨0,0,0⟩).first=(f:Nat)∧f+(m.cabins.party i).many≤m.gang.persons.length∧m.ofParty i=(List.range (m.cabins.party i).many).map (f+·)∧iV (P.parties.getD i ⟨0,0,0⟩)=(m.ofParty i).map fun(x:Nat)=>(x:Int):=by
 obtain⟨a1,a2,a3,a4,f,b1,b2,b3,b4,b5,b6⟩:=p.tR hi;have e:m.ofParty i=(List.range (m.cabins.party i).many).map (f+·):=by
  unfold Machine.ofParty;rw[p.FY,←AT _ f _ b2];refine gT fun x hx=>?_;have:=b3 x hx
  by_cases c:m.party.getD x 0=i
  ·rw[decide_eq_true (this.1 c),c];simp
  ·rw[decide_eq_false fun q=>c (this.2 q)];exact beq_eq_false_iff_ne.mpr c
 refine⟨f,b1,b2,e,?_⟩;rw[e];unfold iV;rw[a1,b1,Int.toNat_natCast,List.map_map];rfl
theorem IU{i x:Nat}:x∈m.ofParty i↔x < m.party.length∧m.party.getD x 0=i:=by
 unfold Machine.ofParty;rw[List.mem_filter,List.mem_range,beq_iff_eq]
def goes(G:Km440.Ship)(l:List Nat):Km440.Ship:=l.foldl (fun g x=>g.set x { g.person x with gone:=true }) G
theorem S7:∀(l:List Nat) (G:Km440.Ship),(∀x∈l,x < G.persons.length)→
  (goes G l).persons.length=G.persons.length∧(goes G l).cards=G.cards∧(goes G l).most=G.most∧(goes G l).gates=G.gates∧(goes G l).rung=G.rung∧
  (∀j,(goes G l).person j=if j∈l then { G.person j with gone:=true } else G.person j)∧
  (goes G l).persons.map eO=(l.map fun(x:Nat)=>(x:Int)).foldl (fun s x=>s.set x.toNat 2) (G.persons.map eO)
 |[],G,_=>⟨rfl,rfl,rfl,rfl,rfl,fun j=>by rw[if_neg (by simp)];rfl,rfl⟩
 |x::l,G,h=>by
  have hx:=h x List.mem_cons_self
  have hl:(G.set x { G.person x with gone:=true }).persons.length=G.persons.length:=List.length_set
  obtain⟨a,b,c,d,e,f,g⟩:=S7 l (G.set x { G.person x with gone:=true }) fun y hy=>by rw[hl];exact h y (List.mem_cons_of_mem _ hy)
  refine⟨a.trans hl,b,c,d,e,fun j=>?_,?_⟩
  ·refine(f j).trans ?_
   have hp:(G.set x { G.person x with gone:=true }).person j=if j=x then { G.person x with gone:=true } else G.person j:=G5 _ hx j
   rw[hp]
   by_cases q:j=x
   ·subst q;rw[if_pos rfl,if_pos (List.mem_cons_self)]
    split <;> rfl
   ·rw[if_neg q]
    by_cases r:j∈l
    ·rw[if_pos r,if_pos (List.mem_cons_of_mem _ r)]
    ·rw[if_neg r,if_neg (by intro z;rcases List.mem_cons.mp z with z |z;exact q z;exact r z)]
  ·refine g.trans ?_;rw[List.map_cons,List.foldl_cons];congr 1;show(G.persons.set x _).map eO=(G.persons.map eO).set ((x:Nat):Int).toNat 2;rw[List.map_set,Int.toNat_natCast];rfl
theorem D8:∀(l:List Int) (s:List Int),(l.foldl (fun s x=>s.set x.toNat 2) s).count 0≤s.count 0
 |[],_=>Nat.le_refl _
 |x::l,s=>Nat.le_trans (D8 l (s.set x.toNat 2)) (VT (by decide))
theorem wq(h:Sim V d.now)(k:Nat):oB d (act d (.leave k)) V (sL V k):=by
 have p:=h.p
 have e0:act d (.leave k)=if d.now.cabins.is k=false then(d,only (-2)) else if ((d.now.ofParty k).all fun x=>(d.now.gang.person x).ashore)=false then(d,only (-16)) else(d.become { d.now with
   cabins:=(Km437.act ⟨d.now.cabins,[],[]⟩ (.leave k)).1.now
   gang:=goes d.now.gang (d.now.ofParty k) },only (((d.now.ofParty k).length:Nat):Int)):=rfl
 have e1:Km437.act ⟨d.now.cabins,[],[]⟩ (.leave k)=if d.now.cabins.is k=false then(⟨d.now.cabins,[],[]⟩,Km437.only (-2)) else(Km437.Desk.become ⟨d.now.cabins,[],[]⟩ { d.now.cabins with parties:=d.now.cabins.parties.set k { d.now.cabins.party k with cabin:=none,gone:=true } },Km437.only ((match (d.now.cabins.party k).cabin with
   |some k=>k+1
   |none=>0:Nat):Int)):=rfl
 rw[e0];unfold sL;rw[p.sX k]
 by_cases c1:d.now.cabins.is k=false
 ·rw[if_pos c1,if_pos c1];exact .no (-2) (by decide) rfl rfl
 ·rw[if_neg c1,if_neg c1];rw[if_neg c1] at e1;have c1':d.now.cabins.is k=true:=by simpa using c1
  have hk:k < d.now.cabins.parties.length∧(d.now.cabins.party k).gone=false:=by
   unfold Km437.Ship.is at c1';rw[Bool.and_eq_true,decide_eq_true_iff,Bool.not_eq_true'] at c1';exact c1'
  obtain⟨a1,a2,a3,a4,f,b1,b2,b3,b4,b5,b6⟩:=p.tR hk.1;obtain⟨f',f1,f2,f3,f4⟩:=p.ofParty hk.1;have hff:f'=f:=by rw[f1] at b1;exact Int.ofNat.inj b1
  subst hff;simp only[Int.toNat_natCast];rw[f4];have hlt:∀x∈d.now.ofParty k,x < d.now.gang.persons.length:=fun x hx=>by rw[←p.FY];exact(IU.1 hx).1
  have hin:∀x,x∈d.now.ofParty k↔f'≤x∧x < f'+(d.now.cabins.party k).many:=fun x=>by
   rw[IU,p.FY];constructor
   ·intro q;exact(b3 x q.1).1 q.2
   ·intro q;have :x < d.now.gang.persons.length:=by omega
    exact⟨this,(b3 x this).2 q⟩
  have hany:((((d.now.ofParty k).map fun(x:Nat)=>(x:Int)).map fun x=>decide (V.aF.aM.getD x.toNat 0=0)).any id)=!((d.now.ofParty k).all fun x=>(d.now.gang.person x).ashore):=by
   have :∀l:List Nat,(∀x∈l,x < d.now.gang.persons.length∧(d.now.gang.person x).gone=false)→(((l.map fun(x:Nat)=>(x:Int)).map fun x=>decide (V.aF.aM.getD x.toNat 0=0)).any id)=!(l.all fun x=>(d.now.gang.person x).ashore):=by
    intro l
    induction l with
    |nil=>intro _;rfl
    |cons x l ih=>
     intro hl;simp only[List.map_cons,List.any_cons,List.all_cons];rw[ih fun y hy=>hl y (List.mem_cons_of_mem _ hy),Int.toNat_natCast,p.CA (hl x List.mem_cons_self).1,dl,(hl x List.mem_cons_self).2];cases (d.now.gang.person x).ashore <;> simp
   refine this _ fun x hx=>⟨hlt x hx,?_⟩;have:=(hin x).1 hx;rw[b4 x this.1 this.2];exact hk.2
  rw[hany]
  by_cases c2:((d.now.ofParty k).all fun x=>(d.now.gang.person x).ashore)=false
  ·rw[if_pos c2,if_pos (by rw[c2];rfl)];exact .no (-16) (by decide) rfl rfl
  ·have c2':((d.now.ofParty k).all fun x=>(d.now.gang.person x).ashore)=true:=by simpa using c2
   rw[if_neg c2,if_neg (by rw[c2'];decide),e1];obtain⟨g1,g2,g3,g4,g5,g6,g7⟩:=S7 (d.now.ofParty k) d.now.gang hlt;refine .yes _ _ (Int.natCast_nonneg _) rfl ?_ ?_
   ·show [(((((d.now.ofParty k).map fun(x:Nat)=>(x:Int))).length:Nat):Int)]=[(((d.now.ofParty k).length:Nat):Int)];rw[List.length_map]
   ·refine h.aF rfl rfl rfl ?_ ?_
    ·refine p.gang (G:=goes d.now.gang (d.now.ofParty k)) (C:={ d.now.cabins with parties:=d.now.cabins.parties.set k { d.now.cabins.party k with cabin:=none,gone:=true } }) g1 g2 g3 (fun j=>?_) rfl (List.length_set) rfl rfl rfl rfl rfl rfl ?_ ?_ ?_ ?_ ?_
     ·rw[g6];split <;> exact⟨rfl,rfl,rfl⟩
     ·rw[g7,←p.aM]
     ·rw[g4];exact p.gate
     ·rw[g5];exact p.rung
     ·rw[g5];exact p.wW
     ·intro i a b q1 q2
      have q2':(d.now.cabins.parties.set k { d.now.cabins.party k with cabin:=none,gone:=true })[i]? =some b:=q2
      rw[List.getElem?_set] at q2'
      by_cases ci:k=i
      ·subst ci;rw[if_pos rfl,if_pos hk.1] at q2';have hb:=Option.some.inj q2';have ha:V.aF.parties.getD k ⟨0,0,0⟩=a:=by rw[List.getD_eq_getElem?_getD,q1];rfl
       rw[ha] at a1 b1;rw[←hb];refine⟨a1,a2,fun z=>absurd z (by simp),fun _=>rfl,f',b1,?_,?_,?_,?_,?_⟩
       ·show f'+(d.now.cabins.party k).many≤(goes d.now.gang (d.now.ofParty k)).persons.length;rw[g1];exact b2
       ·show ∀x,x < (goes d.now.gang (d.now.ofParty k)).persons.length→_;rw[g1];exact b3
       ·intro x x1 x2;show((goes d.now.gang (d.now.ofParty k)).person x).gone=true;rw[g6,if_pos ((hin x).2 ⟨x1,x2⟩)]
       ·intro x y x1 x2;show((goes d.now.gang (d.now.ofParty k)).person x).with_=_→_;rw[g6]
        split <;> exact b5 x y x1 x2
       ·show((goes d.now.gang (d.now.ofParty k)).person f').with_=_;rw[g6]
        split <;> exact b6
      ·rw[if_neg ci] at q2';obtain⟨z1,z2,z3,z4,fi,y1,y2,y3,y4,y5,y6⟩:=p.parties i a b q1 q2';have hno:∀x,fi≤x→x < fi+b.many→¬x∈d.now.ofParty k:=fun x x1 x2 q=>by
        have r1:=(IU.1 q).2;have r2:=(y3 x (by omega)).2 ⟨x1,x2⟩;exact ci (r1.symm.trans r2)
       refine⟨z1,z2,z3,z4,fi,y1,?_,?_,?_,?_,?_⟩
       ·show fi+b.many≤(goes d.now.gang (d.now.ofParty k)).persons.length;rw[g1];exact y2
       ·show ∀x,x < (goes d.now.gang (d.now.ofParty k)).persons.length→_;rw[g1];exact y3
       ·intro x x1 x2;show((goes d.now.gang (d.now.ofParty k)).person x).gone=_;rw[g6,if_neg (hno x x1 x2)];exact y4 x x1 x2
       ·intro x y x1 x2;show((goes d.now.gang (d.now.ofParty k)).person x).with_=_→_;rw[g6]
        split <;> exact y5 x y x1 x2
       ·show((goes d.now.gang (d.now.ofParty k)).person fi).with_=_;rw[g6]
        split <;> exact y6
    ·have ha0:=h.aboard;rw[oA] at ha0 ⊢;show((goes d.now.gang (d.now.ofParty k)).persons.map eO).count 0≤(goes d.now.gang (d.now.ofParty k)).most;rw[g7,g3];exact Nat.le_trans (D8 _ _) ha0
def oC(first children n cards time:Nat):List Km440.Person:=(List.range n).map fun j=>⟨cards+j,if n - 1 - j < children then some first else none,false,time,none,false⟩
theorem B1(first children:Nat):∀(n:Nat) (g:Km440.Ship),addMany first children n g={ g with persons:=g.persons++oC first children n g.cards g.time,cards:=g.cards+n }
 |0,g=>by
  show g={ g with persons:=g.persons++[],cards:=g.cards+0 }
  rw[List.append_nil];rfl
 |n+1,g=>by
  show addMany first children n (g.add (if n < children then some first else none) none)=_
  rw[B1 first children n]
  unfold Km440.Ship.add;simp only[];congr 1
  ·rw[List.append_assoc];congr 1;unfold oC;rw[List.range_succ_eq_map,List.map_cons,List.map_map];show [_]++_=_::_;simp only[List.singleton_append];congr 1;refine List.map_congr_left fun j hj=>?_;have:=List.mem_range.mp hj
   show(⟨g.cards+1+j,if n - 1 - j < children then some first else none,false,g.time,none,false⟩:Km440.Person)=⟨g.cards+(j+1),if n+1 - 1 - (j+1) < children then some first else none,false,g.time,none,false⟩
   rw[show g.cards+1+j=g.cards+(j+1) by omega,show n+1 - 1 - (j+1)=n - 1 - j by omega]
  ·omega
theorem ll(f c n k t:Nat):(oC f c n k t).length=n:=by unfold oC;rw[List.length_map,List.length_range]
theorem vn{f c n k t j:Nat}(h:j < n):(oC f c n k t)[j]? =some ⟨k+j,if n - 1 - j < c then some f else none,false,t,none,false⟩:=by
 unfold oC;rw[List.getElem?_map,List.getElem?_range h];rfl
theorem TC(f c n k t:Nat):(oC f c n k t).map eO=List.replicate n 0:=by
 unfold oC;rw[List.map_map];refine List.ext_getElem? fun i=>?_;rw[List.getElem?_map,List.getElem?_replicate]
 by_cases h:i < n
 ·rw[List.getElem?_range h,if_pos h];rfl
 ·rw[if_neg h,List.getElem?_eq_none (by rw[List.length_range];omega)];rfl
theorem dY.waits(p:dY P m):m.cabins.waits=[]:=by
 unfold Km437.Ship.waits;refine List.filter_eq_nil_iff.mpr fun i hi=>?_;have hl:=List.mem_range.mp hi;have s:=p.tR hl
 cases hg:(m.cabins.party i).gone with
 |true=>simp
 |false=>
  obtain⟨e,_⟩:=s.here hg;rw[e];simp
theorem dY.taken(p:dY P m)(k:Nat):rX P (k:Nat)=(m.cabins.who k).isSome:=by
 have key:rX P (k:Nat)=true↔∃i,i < m.cabins.parties.length∧(m.cabins.party i).cabin=some k:=by
  unfold rX;rw[List.any_eq_true];constructor
  ·rintro⟨b,hb,hbt⟩;obtain⟨i,hi,rfl⟩:=List.mem_map.mp hb;obtain⟨h1,h2⟩:=List.mem_filter.mp hi;have hl:i < m.cabins.parties.length:=by rw[←p.kR];exact List.mem_range.mp h1
   have hc:=of_decide_eq_true h2;have hth:fU P (i:Nat)=true:=hbt;rw[p.sX] at hth;have hg:(m.cabins.party i).gone=false:=by
    unfold Km437.Ship.is at hth;rw[Bool.and_eq_true,Bool.not_eq_true'] at hth;exact hth.2
   obtain⟨e,_⟩:=(p.tR hl).here hg;exact⟨i,hl,by rw[e,hc,Int.toNat_natCast]⟩
  ·rintro⟨i,hl,e⟩;have s:=p.tR hl;have hg:(m.cabins.party i).gone=false:=by
    cases hg:(m.cabins.party i).gone with
    |false=>rfl
    |true=>rw[s.gone hg] at e;cases e
   obtain⟨e2,h0⟩:=s.here hg;rw[e] at e2;have e3:k=(P.parties.getD i ⟨0,0,0⟩).cabin.toNat:=Option.some.inj e2;refine⟨true,List.mem_map.mpr ⟨i,List.mem_filter.mpr ⟨List.mem_range.mpr (by rw[p.kR];exact hl),decide_eq_true (by omega)⟩,?_⟩,rfl⟩;rw[p.sX];unfold Km437.Ship.is;rw[decide_eq_true hl,hg];rfl
 have key2:(m.cabins.who k).isSome=true↔∃i,i < m.cabins.parties.length∧(m.cabins.party i).cabin=some k:=by
  unfold Km437.Ship.who;rw[List.find?_isSome];constructor
  ·rintro⟨i,hi,e⟩;exact⟨i,List.mem_range.mp hi,by simpa using e⟩
  ·rintro⟨i,hi,e⟩;exact⟨i,List.mem_range.mpr hi,by rw[e];simp⟩
 rw[Bool.eq_iff_iff,key,key2]
theorem n8(p:dY P m){k:Nat}(h:k < m.cabins.cabins.length):P.cabins.getD k ⟨0,0,0,0,0⟩=HX (m.cabins.cabin k)∧(m.cabins.cabin k).shut=false:=by
 have e:m.cabins.cabins[k]? =some (m.cabins.cabin k):=by
  unfold Km437.Ship.cabin;rw[List.getD_eq_getElem?_getD,List.getElem?_eq_getElem h];rfl
 refine⟨?_,p.shut _ (List.mem_of_getElem? e)⟩;rw[p.cabins,List.getD_eq_getElem?_getD,List.getElem?_map,e];rfl
theorem Dd(a b:Km437.Cabin):xQ (HX a) (HX b)=Km437.better a b:=by
 unfold xQ Km437.better HX;simp only[]
 by_cases c:a.rank=b.rank
 ·rw[if_neg (by omega),c]
  by_cases q:a.berths < b.berths
  ·rw[decide_eq_true (by omega),decide_eq_true q];simp
  ·rw[decide_eq_false (by omega),decide_eq_false q];simp
 ·rw[if_pos (by omega),beq_eq_false_iff_ne.mpr c]
  by_cases q:a.rank < b.rank
  ·rw[decide_eq_true (by omega),decide_eq_true q];rfl
  ·rw[decide_eq_false (by omega),decide_eq_false q];rfl
theorem Go(p:dY P m){k n r f:Nat}(h:k < m.cabins.cabins.length)(hf:f≤1):does P k n r f=(m.cabins.free k&&Km437.does (m.cabins.cabin k) ⟨n,r,f==1,none,false⟩):=by
 obtain⟨e1,e2⟩:=n8 p h;unfold does Km437.does Km437.Ship.free;simp only[];rw[e1,e2,p.taken,decide_eq_true h];have hs:(!(m.cabins.who k).isSome)=(m.cabins.who k).isNone:=by cases m.cabins.who k <;> rfl
 rw[hs];have a1:decide ((HX (m.cabins.cabin k)).berths≥(n:Int))=decide (n≤(m.cabins.cabin k).berths):=by
  show decide ((((m.cabins.cabin k).berths:Nat):Int)≥(n:Int))=_
  by_cases q:n≤(m.cabins.cabin k).berths
  ·rw[decide_eq_true q,decide_eq_true (by omega)]
  ·rw[decide_eq_false q,decide_eq_false (by omega)]
 have a2:decide ((HX (m.cabins.cabin k)).rank≥(r:Int))=decide (r≤(m.cabins.cabin k).rank):=by
  show decide ((((m.cabins.cabin k).rank:Nat):Int)≥(r:Int))=_
  by_cases q:r≤(m.cabins.cabin k).rank
  ·rw[decide_eq_true q,decide_eq_true (by omega)]
  ·rw[decide_eq_false q,decide_eq_false (by omega)]
 have a3:decide ((HX (m.cabins.cabin k)).flat≥(f:Int))=(!(f==1)||(m.cabins.cabin k).flat):=by
  show decide ((if (m.cabins.cabin k).flat=true then(1:Int) else 0)≥(f:Int))=_
  have :f=0∨f=1:=by omega
  rcases this with rfl |rfl <;> cases (m.cabins.cabin k).flat <;> decide
 rw[a1,a2,a3];cases (m.cabins.who k).isNone <;> simp
theorem vX{α β:Type}(p:α→Bool)(g:β→α→β):∀(l:List α) (b:β),(l.filter p).foldl g b=l.foldl (fun b a=>if p a=true then g b a else b) b
 |[],_=>rfl
 |a::l,b=>by
  rw[List.filter_cons,List.foldl_cons]
  cases h:p a with
  |true=>rw[if_pos rfl,List.foldl_cons,vX p g l];simp
  |false=>rw[if_neg (by decide),vX p g l];simp
theorem HK{α β:Type}(I:β→Prop)(g h:β→α→β):∀(l:List α) (b:β),I b→(∀a∈l,∀b,I b→g b a=h b a∧I (h b a))→l.foldl g b=l.foldl h b
 |[],_,_,_=>rfl
 |a::l,b,hb,hl=>by
  obtain⟨e,hi⟩:=hl a List.mem_cons_self b hb;rw[List.foldl_cons,List.foldl_cons,e];exact HK I g h l _ hi fun x hx=>hl x (List.mem_cons_of_mem _ hx)
theorem Gp(p:dY P m)(n r f:Nat)(hf:f≤1):uZ P n r f=CSB.nN m.cabins ⟨n,r,f==1,none,false⟩:=by
 unfold uZ CSB.nN Km437.Ship.frees;rw[vX,p.cabins,List.length_map];refine HK (fun b=>∀j,b=some j→j < m.cabins.cabins.length) _ _ _ _ (fun j e=>by cases e) fun k hk b hb=>?_;have hl:=List.mem_range.mp hk
 have step:lV P n r f b k=(if m.cabins.free k=true then CSB.uE m.cabins ⟨n,r,f==1,none,false⟩ b k else b):=by
  unfold lV CSB.uE;rw[Go p hl hf]
  cases h1:m.cabins.free k with
  |false=>simp
  |true=>
   cases h2:Km437.does (m.cabins.cabin k) ⟨n,r,f==1,none,false⟩ with
   |false=>simp
   |true=>
    simp only[Bool.and_true,if_true,Bool.true_eq_false,if_false]
    cases b with
    |none=>rfl
    |some j=>
     simp only[];rw[(n8 p hl).1,(n8 p (hb j rfl)).1,Dd]
 refine⟨step,fun j e=>?_⟩;rw[←step] at e;unfold lV at e
 split at e
 ·split at e
  ·cases e;exact hl
  ·rename_i j0
   split at e
   ·cases e;exact hl
   ·cases e;exact hb _ rfl
 ·exact hb j e
def jB(m:Machine)(n c r f kk:Nat):Machine:={ m with cabins:={ m.cabins with parties:=m.cabins.parties++[⟨n,r,f==1,some kk,false⟩] },gang:={ m.gang with persons:=m.gang.persons++oC m.gang.persons.length c n m.gang.cards m.gang.time,cards:=m.gang.cards+n },party:=m.party++List.replicate n m.cabins.parties.length }
theorem wK{n c r f kk x:Nat}(h:x < m.gang.persons.length):(jB m n c r f kk).gang.person x=m.gang.person x:=by
 unfold Km440.Ship.person jB;simp only[];rw[List.getD_eq_getElem?_getD,List.getD_eq_getElem?_getD,List.getElem?_append_left h]
theorem vS{n c r f kk j:Nat}(h:j < n):(jB m n c r f kk).gang.person (m.gang.persons.length+j)=⟨m.gang.cards+j,if n - 1 - j < c then some m.gang.persons.length else none,false,m.gang.time,none,false⟩:=by
 unfold Km440.Ship.person jB;simp only[];rw[List.getD_eq_getElem?_getD,List.getElem?_append_right (by omega),show m.gang.persons.length+j - m.gang.persons.length=j by omega,vn h];rfl
theorem GO{n x q:Nat}(h:x < m.party.length):(m.party++List.replicate n q).getD x 0=m.party.getD x 0:=by
 rw[List.getD_eq_getElem?_getD,List.getD_eq_getElem?_getD,List.getElem?_append_left h]
theorem mO{n j q:Nat}(h:j < n):(m.party++List.replicate n q).getD (m.party.length+j) 0=q:=by
 rw[List.getD_eq_getElem?_getD,List.getElem?_append_right (by omega),show m.party.length+j - m.party.length=j by omega,List.getElem?_replicate,if_pos h];rfl
theorem pq(m:Machine)(n c r f kk:Nat):(jB m n c r f kk).gang.persons.length=m.gang.persons.length+n:=by
 unfold jB;simp only[];rw[List.length_append,ll]
theorem SQ{α:Type}(a b:Nat)(f:Nat→α):(List.range (a+b)).map f=(List.range a).map f++(List.range b).map fun j=>f (a+j):=by
 rw[List.range_add,List.map_append,List.map_map];rfl
theorem dY.board(p:dY P m){n c r f kk:Nat}(hn:1≤n)(hcn:c < n)(h8:m.cabins.parties.length < 8)(h16:m.gang.persons.length+n≤16):dY (PQ P n c kk) (jB m n c r f kk):=by
 have hL:=pq m n c r f kk;have hpl:=p.FY;have hcd:=p.cards;have split:∀x,x < m.gang.persons.length+n→x < m.gang.persons.length∨∃j,j < n∧x=m.gang.persons.length+j:=fun x hx=>by
  by_cases q:x < m.gang.persons.length
  ·exact .inl q
  ·exact .inr ⟨x - m.gang.persons.length,by omega,by omega⟩
 exact {
  most:=p.most
  wJ:=p.wJ
  cabins:=p.cabins
  shut:=p.shut
  DC:=p.DC
  aM:=by
   show P.aM++List.replicate n 0=(m.gang.persons++oC _ c n _ _).map eO;rw[List.map_append,TC,p.aM]
  QR:=by rw[hL];exact h16
  cards:=by rw[hL];show m.gang.cards+n=_;rw[hcd]
  card:=fun i x hx=>by
   have hi:i < m.gang.persons.length+n:=by rw[←hL];exact(List.getElem?_eq_some_iff.mp hx).1
   have e:(jB m n c r f kk).gang.person i=x:=Option.some.inj ((sM (by rw[hL];exact hi)).symm.trans hx)
   rcases split i hi with q |⟨j,hj,rfl⟩
   ·rw[wK q] at e;rw[←e];exact p.card i _ (sM q)
   ·rw[vS hj] at e;rw[←e];exact⟨by show m.gang.cards+j=_;rw[hcd],rfl⟩
  FY:=by
   rw[hL];show(m.party++List.replicate n _).length=_;rw[List.length_append,List.length_replicate,hpl]
  DP:=fun x hx=>by
   rw[hL] at hx;show(m.party++List.replicate n _).getD x 0 < (m.cabins.parties++[_]).length;rw[List.length_append];show _ < m.cabins.parties.length+1
   rcases split x hx with q |⟨j,hj,rfl⟩
   ·rw[GO (by rw[hpl];exact q)];have:=p.DP x q;omega
   ·rw[←hpl,mO hj];omega
  persons:=by
   rw[hL];show P.persons++_=_;rw[SQ,p.persons];congr 1
   ·refine List.map_congr_left fun x hx=>?_;have hx':=List.mem_range.mp hx;show(⟨_,_⟩:Person)=⟨(((m.party++List.replicate n _).getD x 0:Nat):Int),((jB m n c r f kk).gang.person x).with_.isSome⟩;rw[GO (by rw[hpl];exact hx'),wK hx']
   ·refine List.map_congr_left fun j hj=>?_;have hj':=List.mem_range.mp hj;show(⟨((P.parties.length:Nat):Int),decide (((j:Nat):Int)≥((n:Nat):Int) - ((c:Nat):Int))⟩:Person)=⟨(((m.party++List.replicate n m.cabins.parties.length).getD (m.gang.persons.length+j) 0:Nat):Int),((jB m n c r f kk).gang.person (m.gang.persons.length+j)).with_.isSome⟩;rw[vS hj',←hpl,mO hj',p.kR];congr 1
    by_cases q:n - 1 - j < c
    ·rw[decide_eq_true (by omega),if_pos q];rfl
    ·rw[decide_eq_false (by omega),if_neg q];rfl
  bR:=by
   rw[hL];show P.bR++List.replicate n (-1)=(List.range (m.gang.persons.length+n)).map fun x=>qI (m.muster.know x);rw[SQ,p.bR];congr 1;refine List.ext_getElem? fun i=>?_;rw[List.getElem?_replicate,List.getElem?_map]
   by_cases q:i < n
   ·rw[if_pos q,List.getElem?_range q];simp only[Option.map_some];rw[p.pT _ (by omega)];rfl
   ·rw[if_neg q,List.getElem?_eq_none (by rw[List.length_range];omega)];rfl
  seen:=p.seen
  pT:=fun x hx=>p.pT x (by rw[hL] at hx;omega)
  know:=p.know
  me:=p.me
  minute:=p.minute
  drill:=p.drill
  lL:=p.lL
  gate:=p.gate
  rung:=p.rung
  wW:=p.wW
  kR:=by
   show(P.parties++[_]).length=(m.cabins.parties++[_]).length;rw[List.length_append,List.length_append,p.kR];rfl
  BW:=by
   show(m.cabins.parties++[_]).length≤8;rw[List.length_append];show m.cabins.parties.length+1≤8;omega
  parties:=fun i x q h1 h2=>by
   have h1':(P.parties++[⟨((P.persons.length:Nat):Int),((n:Nat):Int),((kk:Nat):Int)⟩])[i]? =some x:=h1;have h2':(m.cabins.parties++[(⟨n,r,f==1,some kk,false⟩:Km437.Party)])[i]? =some q:=h2
   by_cases hi:i < m.cabins.parties.length
   ·rw[List.getElem?_append_left (by rw[p.kR];exact hi)] at h1';rw[List.getElem?_append_left hi] at h2';obtain⟨a1,a2,a3,a4,g,b1,b2,b3,b4,b5,b6⟩:=p.parties i x q h1' h2';refine⟨a1,a2,a3,a4,g,b1,by rw[hL];omega,fun y hy=>?_,fun y y1 y2=>?_,fun y z y1 y2=>?_,?_⟩
    ·rw[hL] at hy;show(m.party++List.replicate n _).getD y 0=i↔_
     rcases split y hy with w |⟨j,hj,rfl⟩
     ·rw[GO (by rw[hpl];exact w)];exact b3 y w
     ·rw[←hpl,mO hj];constructor
      ·intro z;omega
      ·intro z;omega
    ·rw[wK (by omega)];exact b4 y y1 y2
    ·rw[wK (by omega)];exact b5 y z y1 y2
    ·rw[wK (by omega)];exact b6
   ·have hi2:i=m.cabins.parties.length:=by
     have:=(List.getElem?_eq_some_iff.mp h2').1;rw[List.length_append] at this;simp only[List.length_cons,List.length_nil] at this;omega
    subst hi2;rw[List.getElem?_append_right (by rw[p.kR];omega),p.kR] at h1';rw[List.getElem?_append_right (by omega)] at h2';simp only[Nat.sub_self,List.getElem?_cons_zero] at h1' h2';have hx:=Option.some.inj h1';have hq:=Option.some.inj h2';rw[←hx,←hq];refine⟨rfl,hn,fun _=>⟨by show some kk=some ((kk:Nat):Int).toNat;rw[Int.toNat_natCast],Int.natCast_nonneg _⟩,fun z=>absurd (show false=true from z) (by decide),m.gang.persons.length,by show((P.persons.length:Nat):Int)=_;rw[p.CP],by rw[hL];exact Nat.le_refl _,fun y hy=>?_,fun y y1 y2=>?_,fun y z y1 y2=>?_,?_⟩
    ·rw[hL] at hy;show(m.party++List.replicate n _).getD y 0=m.cabins.parties.length↔_≤y∧y < _+n
     rcases split y hy with w |⟨j,hj,rfl⟩
     ·rw[GO (by rw[hpl];exact w)];have:=p.DP y w;constructor
      ·intro z;omega
      ·intro z;omega
     ·rw[←hpl,mO hj];constructor
      ·intro _;omega
      ·intro _;rfl
    ·have :∃j,j < n∧y=m.gang.persons.length+j:=⟨y - m.gang.persons.length,by have :y < m.gang.persons.length+n:=y2;omega,by omega⟩;obtain⟨j,hj,rfl⟩:=this;rw[vS hj]
    ·have :∃j,j < n∧y=m.gang.persons.length+j:=⟨y - m.gang.persons.length,by have :y < m.gang.persons.length+n:=y2;omega,by omega⟩;obtain⟨j,hj,rfl⟩:=this;rw[vS hj];intro e
     have e':(if n - 1 - j < c then some m.gang.persons.length else none)=some z:=e
     split at e'
     ·exact(Option.some.inj e').symm
     ·cases e'
    ·have:=vS (m:=m) (n:=n) (c:=c) (r:=r) (f:=f) (kk:=kk) (j:=0) (by omega);rw[Nat.add_zero] at this;rw[this]
     show(if n - 1 - 0 < c then some m.gang.persons.length else none)=none
     rw[if_neg (by omega)] }
theorem ss(h:Sim V d.now)(n c r f:Nat):oB d (act d (.board n c r f)) V (sO V n c r f):=by
 have p:=h.p
 have e0:act d (.board n c r f)=if n=0∨6 < n∨n≤c∨3 < r∨1 < f then(d,only (-22)) else if d.now.inPort=false then(d,only (-16)) else if Km437.PARTIES≤d.now.cabins.parties.length∨PERSONS < d.now.gang.persons.length+n then(d,only (-28)) else if d.now.gang.most < d.now.aboard+n then(d,only (-62)) else match d.now.boards n c r f with
   |none=>(d,only (-33))
   |some m=>(d.become m,⟨((d.now.cabins.parties.length:Nat):Int),[match (m.cabins.party d.now.cabins.parties.length).cabin with
    |some x=>x
    |none=>0,d.now.gang.persons.length,d.now.gang.cards]⟩):=rfl
 have o:=nU n 1 6;have hs:=qv h;have h8:=p.BW;have m1:(cJ (n:Int) 1 6=true∨(c:Int)≥(n:Int)∨(r:Int) > 3∨(f:Int) > 1)↔(n=0∨6 < n∨n≤c∨3 < r∨1 < f):=by
  rw[show cJ (n:Int) 1 6=true↔n < 1∨6 < n from o];omega
 rw[e0];unfold sO
 by_cases c1:n=0∨6 < n∨n≤c∨3 < r∨1 < f
 ·rw[if_pos c1,if_pos (m1.2 c1)];exact .no (-22) (by decide) rfl rfl
 ·rw[if_neg c1,if_neg fun q=>c1 (m1.1 q)]
  by_cases c2:d.now.inPort=false
  ·rw[if_pos c2,if_pos (hs.2 c2)];exact .no (-16) (by decide) rfl rfl
  ·rw[if_neg c2,if_neg fun q=>c2 (hs.1 q)];have m3:(V.aF.parties.length=8∨((V.aF.persons.length:Nat):Int)+(n:Int) > 16)↔(Km437.PARTIES≤d.now.cabins.parties.length∨PERSONS < d.now.gang.persons.length+n):=by
    rw[p.kR,p.CP];show _↔(8≤d.now.cabins.parties.length∨16 < d.now.gang.persons.length+n);omega
   by_cases c3:Km437.PARTIES≤d.now.cabins.parties.length∨PERSONS < d.now.gang.persons.length+n
   ·rw[if_pos c3,if_pos (m3.2 c3)];exact .no (-28) (by decide) rfl rfl
   ·rw[if_neg c3,if_neg fun q=>c3 (m3.1 q)];have c3':¬(8≤d.now.cabins.parties.length∨16 < d.now.gang.persons.length+n):=c3;have m4:cB V.aF+(n:Int) > V.aF.most↔d.now.gang.most < d.now.aboard+n:=by
     rw[p.count,p.most];omega
    by_cases c4:d.now.gang.most < d.now.aboard+n
    ·rw[if_pos c4,if_pos (m4.2 c4)];exact .no (-62) (by decide) rfl rfl
    ·rw[if_neg c4,if_neg fun q=>c4 (m4.1 q)];have hb:=CSB.zr d.now n c r f (by omega) (fun q=>c3 (.inl q)) p.waits;have hbest:=Gp p n r f (by omega)
     cases e:CSB.nN d.now.cabins ⟨n,r,f==1,none,false⟩ with
     |none=>
      rw[e] at hb hbest;rw[hb,hbest];exact .no (-33) (by decide) rfl rfl
     |some kk=>
      rw[e] at hb hbest;simp only[] at hb
      have hm:({ d.now with cabins:={ d.now.cabins with parties:=d.now.cabins.parties++[⟨n,r,f==1,some kk,false⟩] },gang:=addMany d.now.gang.persons.length c n d.now.gang,party:=d.now.party++List.replicate n d.now.cabins.parties.length }:Machine)=jB d.now n c r f kk:=by
       rw[B1];rfl
      have hb':d.now.boards n c r f=some (jB d.now n c r f kk):=hb.trans (congrArg some hm);rw[hbest];have hcab:((jB d.now n c r f kk).cabins.party d.now.cabins.parties.length).cabin=some kk:=by
       unfold Km437.Ship.party jB;simp only[];rw[List.getD_eq_getElem?_getD];simp
      refine .yes (jB d.now n c r f kk) ⟨((d.now.cabins.parties.length:Nat):Int),[kk,d.now.gang.persons.length,d.now.gang.cards]⟩ (Int.natCast_nonneg _) ?_ ?_ ?_
      ·rw[hb'];simp only[];rw[hcab]
      ·show [((V.aF.parties.length:Nat):Int),((kk:Nat):Int),((V.aF.persons.length:Nat):Int),((V.aF.persons.length:Nat):Int)]=[((d.now.cabins.parties.length:Nat):Int),((kk:Nat):Int),((d.now.gang.persons.length:Nat):Int),((d.now.gang.cards:Nat):Int)];rw[p.kR,p.CP,p.cards]
      ·show Sim { V with aF:=PQ V.aF ((n:Nat):Int).toNat c kk } (jB d.now n c r f kk)
       rw[Int.toNat_natCast];refine h.aF rfl rfl rfl (p.board (by omega) (by omega) (by omega) (by omega)) ?_;rw[oA];show((d.now.gang.persons++oC _ c n _ _).map eO).count 0≤d.now.gang.most;rw[List.map_append,TC,List.count_append,List.count_replicate_self];rw[oA] at c4;omega
end
end CS
namespace CS
structure Voy where
 now:Option aU
 past:List aU
 cW:List aU
deriving Inhabited
def ZD:List Int:=[8,3,2,5,4,1,1,1,2,1,2,3,0,1,1,0,0,0,0,0,1,1,0,1,0,1,0,0,1,0,0,0,0]
def cQ(c:Int):Nat:=(ZD.getD c.toNat 0).toNat
def nR(V:aU)(c:Int)(l:List Int):aU×List Int:=
 if c=1 then CG V (l.getD 0 0) (l.getD 1 0) (l.getD 2 0)
 else if c=2 then wE V (l.getD 0 0) (l.getD 1 0)
 else if c=3 then sE V (l.getD 0 0) (l.getD 1 0) (l.getD 2 0) (l.getD 3 0) (l.getD 4 0)
 else if c=4 then sO V (l.getD 0 0) (l.getD 1 0) (l.getD 2 0) (l.getD 3 0)
 else if c=5 then sL V (l.getD 0 0)
 else if c=6 then vG V (l.getD 0 0)
 else if c=7 then tD V (l.getD 0 0)
 else if c=8 then wI V (l.getD 0 0) (l.getD 1 0)
 else if c=9 then pH V (l.getD 0 0)
 else if c=10 then pP V (l.getD 0 0) (l.getD 1 0)
 else if c=11 then CB V (l.getD 0 0) (l.getD 1 0) (l.getD 2 0)
 else if c=12 then sB V
 else if c=13 then QZ V (l.getD 0 0)
 else kO V (l.getD 0 0)
def FA(V:aU)(c:Int)(l:List Int):List Int:=
 if c=15 then CM V
 else if c=16 then CL V
 else if c=17 then xZ V
 else if c=18 then vA V
 else if c=19 then tZ V
 else if c=20 then NK V (l.getD 0 0)
 else if c=21 then xI V (l.getD 0 0)
 else if c=22 then yE V
 else if c=23 then xM V (l.getD 0 0)
 else if c=24 then CQ V
 else if c=25 then xX V (l.getD 0 0)
 else if c=26 then CU V
 else if c=27 then xO V
 else if c=28 then xV V (l.getD 0 0)
 else LY V
def RE(a u f m g b r l:Int):Bool:=(cJ a 1 16||decide (u > 80))||(([f,m,g,b].map fun x=>cJ x 1 10000000).any id||(cJ r 1 1000000000||cJ l 1 60))
def rT(a u f m g b r l:Int):aU:=⟨⟨l,0,0,[]⟩,⟨a,[],[],[],[],[],0,0,0,0,0⟩,⟨u,f,m,g,b,f,0,0,0,0,0,0,0⟩,⟨r,[]⟩⟩
def qJ(Y:Voy)(a u f m g b r l:Int):Voy×List Int:=if RE a u f m g b r l=true then(Y,[-22]) else(⟨some (rT a u f m g b r l),[],[]⟩,[0])
def nP(p:List aU)(v:aU):List aU:=if (p++[v]).length > 20 then(p++[v]).eraseIdx 0 else p++[v]
def rH(Y:Voy)(V:aU)(c:Int)(l:List Int):Voy×List Int:=
 let r:=nR V c l
 if r.2.getD 0 0≥0 then(⟨some r.1,nP Y.past V,[]⟩,r.2) else(Y,r.2)
def DH(Y:Voy)(V:aU):Voy×List Int:=match Y.past.getLast? with
 |none=>(Y,[-2])
 |some x=>(⟨some x,Y.past.dropLast,Y.cW++[V]⟩,[(Y.past.dropLast.length:Nat)])
def yN(Y:Voy)(V:aU):Voy×List Int:=match Y.cW.getLast? with
 |none=>(Y,[-2])
 |some x=>(⟨some x,Y.past++[V],Y.cW.dropLast⟩,[(Y.cW.dropLast.length:Nat)])
def yD(Y:Voy)(V:aU):List Int:=[V.way.hour,today V.way,(V.way.legs.length:Nat),(V.stores.goods.length:Nat),(V.aF.parties.length:Nat),(Y.past.length:Nat),(Y.cW.length:Nat)]
def cX(Y:Voy)(c:Int)(l:List Int):Voy×List Int:=
 if c=0 then qJ Y (l.getD 0 0) (l.getD 1 0) (l.getD 2 0) (l.getD 3 0) (l.getD 4 0) (l.getD 5 0) (l.getD 6 0) (l.getD 7 0)
 else match Y.now with
  |none=>(Y,[])
  |some V=>
   if cJ c 1 14=false then rH Y V c l
   else if c=30 then DH Y V
   else if c=31 then yN Y V
   else if c=32 then(Y,yD Y V)
   else(Y,FA V c l)
def oG:Nat→Voy→List Int→List Int
 |f+1,Y,c::r=>((cX Y c (r.take (cQ c))).2.length:Nat)::((cX Y c (r.take (cQ c))).2++oG f (cX Y c (r.take (cQ c))).1 (r.drop (cQ c)))
 |_,_,_=>[]
end CS
namespace CS
open Km443
def gY(d:Desk)(r:Desk×Ans)(x:List Int):Prop:=r.1=d∧told r.2=x
section
variable{V:aU}{d:Desk}{P:cZ}{m:Machine}
theorem CI(l:List Nat):mD l=((bits l:Nat):Int):=by
 have g:∀(l:List Nat) (a:Nat),((l.foldl (fun w k=>w+2 ^ k) a:Nat):Int)=(a:Int)+mD l:=by
  intro l
  induction l with
  |nil=>intro a;show(a:Int)=(a:Int)+0;omega
  |cons x l ih=>
   intro a;rw[List.foldl_cons,ih];show((a+2 ^ x:Nat):Int)+mD l=(a:Int)+((2:Int) ^ x+mD l);push_cast;omega
 have:=g l 0;unfold bits;rw[this];show mD l=0+mD l;omega
theorem wg(h:Sim V d.now):gY d (act d .where_) (CM V):=by
 refine⟨rfl,?_⟩;have w:=h.w;show [(((d.now.water.leg d.now.water.hour).miles:Nat):Int),(((d.now.water.leg d.now.water.hour).knots:Nat):Int),((bit d.now.inPort:Nat):Int),((bit d.now.leaves:Nat):Int),((d.now.water.end_:Nat):Int)]=_;unfold CM;rw[w.sea,w.leaving,Bu w,w.hour,w.miles,w.knots];unfold bit;cases d.now.inPort <;> cases d.now.leaves <;> rfl
theorem um(h:Sim V d.now):gY d (act d .ready) (CL V):=by
 refine⟨rfl,?_⟩;have p:=h.p;obtain⟨g,hg,ho,_⟩:=p.gate;have hg0:d.now.gang.gate 0=g:=by unfold Km440.Ship.gate;rw[hg];rfl
 show [((bit d.now.gang.maySail:Nat):Int),((d.now.gang.missing.length:Nat):Int),((bit (d.now.gang.gate 0).open_:Nat):Int),((d.now.late:Nat):Int)]=_;unfold CL;rw[p.leave,p.away,ho,h.w.fC,hg0];unfold bit;cases d.now.gang.maySail <;> cases g.open_ <;> rfl
theorem mv(h:Sim V d.now):gY d (act d .aboard) (xZ V):=by
 refine⟨rfl,?_⟩;have p:=h.p;have ha:=h.aboard;show [((d.now.aboard:Nat):Int),((bits d.now.gang.here:Nat):Int),((d.now.gang.most - d.now.aboard:Nat):Int)]=_;unfold xZ;rw[p.here,CI,p.most];show [((d.now.gang.here.length:Nat):Int),_,_]=[((d.now.gang.here.length:Nat):Int),_,_];have e:((d.now.gang.most - d.now.aboard:Nat):Int)=((d.now.gang.most:Nat):Int) - ((d.now.gang.here.length:Nat):Int):=by
  have :d.now.aboard=d.now.gang.here.length:=rfl;omega
 rw[e]
theorem dh(h:Sim V d.now):gY d (act d .missing) (vA V):=by
 refine⟨rfl,?_⟩;show [((d.now.gang.missing.length:Nat):Int),((bits d.now.gang.missing:Nat):Int)]=_;unfold vA;rw[h.p.away,CI]
theorem km(h:Sim V d.now):gY d (act d .search) (tZ V):=by
 refine⟨rfl,?_⟩;have p:=h.p
 show told (if d.now.muster.drill=0 then only (-6) else⟨((d.now.search.length:Nat):Int),[bits d.now.search,d.now.muster.drill]⟩)=_
 unfold tZ;rw[p.drill,p.search,CI]
 by_cases c:d.now.muster.drill=0
 ·rw[if_pos c,if_pos (by omega)];rfl
 ·rw[if_neg c,if_neg (by omega)];rfl
theorem Fi(h:Sim V d.now)(c:Nat):gY d (act d (.who c)) (NK V c):=by
 refine⟨rfl,?_⟩;have p:=h.p
 show told (match d.now.gang.holder c with
   |none=>only (-2)
   |some p=>⟨((p:Nat):Int),[d.now.party.getD p 0,bit (d.now.gang.person p).ashore]⟩)=_
 unfold NK;rw[p.kH,p.holder]
 by_cases q:d.now.gang.is c=true
 ·rw[if_pos q,if_neg (by rw[q];decide)];have hk:=(LL q).1;have ha:=p.ashore q;rw[Int.toNat_natCast];have hpc:V.aF.persons.getD c ⟨0,false⟩=⟨(d.now.party.getD c 0:Nat),(d.now.gang.person c).with_.isSome⟩:=by
   rw[p.persons,List.getD_eq_getElem?_getD,List.getElem?_map,List.getElem?_range hk];rfl
  rw[hpc];show [((c:Nat):Int),((d.now.party.getD c 0:Nat):Int),((bit (d.now.gang.person c).ashore:Nat):Int)]=[((c:Nat):Int),((d.now.party.getD c 0:Nat):Int),_];unfold bit
  by_cases z:(d.now.gang.person c).ashore=true
  ·rw[if_pos z,if_pos (ha.2 z)];rfl
  ·rw[if_neg z,if_neg fun w=>z (ha.1 w)];rfl
 ·rw[if_neg q,if_pos (by simpa using q)];rfl
theorem fo(l:List Nat):zJ (l.map fun(x:Nat)=>(x:Int))=l:=by
 unfold zJ;rw[List.map_map];have :(Int.toNat∘fun(x:Nat)=>(x:Int))=id:=by funext x;show((x:Nat):Int).toNat=x;rw[Int.toNat_natCast]
 rw[this,List.map_id]
theorem yp(h:Sim V d.now)(k:Nat):gY d (act d (.party k)) (xI V k):=by
 refine⟨rfl,?_⟩;have p:=h.p
 show told (if d.now.cabins.is k=false then only (-2) else⟨(((d.now.ofParty k).length:Nat):Int),[bits (d.now.ofParty k),match (d.now.cabins.party k).cabin with
   |some k=>k
   |none=>0]⟩)=_
 unfold xI;rw[p.sX]
 by_cases q:d.now.cabins.is k=false
 ·rw[if_pos q,if_pos q];rfl
 ·rw[if_neg q,if_neg q];have q':d.now.cabins.is k=true:=by simpa using q
  have hk:k < d.now.cabins.parties.length∧(d.now.cabins.party k).gone=false:=by
   unfold Km437.Ship.is at q';rw[Bool.and_eq_true,decide_eq_true_iff,Bool.not_eq_true'] at q';exact q'
  have s:=p.tR hk.1;obtain⟨e1,e2⟩:=s.here hk.2;obtain⟨f',f1,f2,f3,f4⟩:=p.ofParty hk.1;simp only[Int.toNat_natCast];rw[f4,fo,e1,s.many,CI];show [(((d.now.ofParty k).length:Nat):Int),((bits (d.now.ofParty k):Nat):Int),(((V.aF.parties.getD k ⟨0,0,0⟩).cabin.toNat:Nat):Int)]=_;rw[f3,List.length_map,List.length_range];congr 2;congr 1;omega
theorem dY.frees(p:dY P m):lD P=m.cabins.frees:=by
 unfold lD Km437.Ship.frees;refine rB (by rw[p.cabins,List.length_map]) fun k hk=>?_;rw[p.cabins,List.length_map] at hk;rw[p.taken];unfold Km437.Ship.free;rw[decide_eq_true hk];cases m.cabins.who k <;> rfl
theorem dY.WP(p:dY P m):(ZR P).length=(m.cabins.parties.filter fun x=>!x.gone).length:=by
 unfold ZR;rw[←wQ (⟨0,0,false,none,true⟩:Km437.Party) (fun x=>!x.gone) m.cabins.parties,p.kR];congr 1;refine gT fun k hk=>?_;rw[p.sX];unfold Km437.Ship.is;rw[decide_eq_true hk];rfl
theorem ni(h:Sim V d.now):gY d (act d .cabins) (yE V):=by
 refine⟨rfl,?_⟩;have p:=h.p;show [((d.now.cabins.frees.length:Nat):Int),((bits d.now.cabins.frees:Nat):Int),((d.now.cabins.cabins.length:Nat):Int),(((d.now.cabins.parties.filter fun x=>!x.gone).length:Nat):Int)]=_;unfold yE;rw[p.frees,p.WP,CI,p.cabins,List.length_map]
theorem P7{W:Way}{T:eP}{S:gC}(w:pO W T S m)(g:Nat):S.goods[g]? =(m.stores.goods[g]?).map eD:=by rw[w.goods,List.getElem?_map]
theorem sv(h:Sim V d.now)(g:Nat):gY d (act d (.stock g)) (xX V g):=by
 refine⟨rfl,?_⟩;have w:=h.w
 show told (match d.now.stores.goods[g]? with
   |none=>only (-2)
   |some x=>⟨((Km438.amount x.lots:Nat):Int),[x.eaten,x.spoilt,x.lacked]⟩)=_
 have hl:V.stores.goods.length=d.now.stores.goods.length:=by rw[w.goods,List.length_map]
 unfold xX;rw[hl]
 cases e:d.now.stores.goods[g]? with
 |none=>
  have hg:=List.getElem?_eq_none_iff.mp e;rw[if_pos (by omega)];rfl
 |some x=>
  have hg:=(List.getElem?_eq_some_iff.mp e).1;rw[if_neg (by omega)];have eG:V.stores.goods.getD ((g:Nat):Int).toNat ⟨0,0,[],0,0,0,0⟩=eD x:=by
   rw[Int.toNat_natCast,List.getD_eq_getElem?_getD,P7 w,e];rfl
  rw[eG];show [((Km438.amount x.lots:Nat):Int),((x.eaten:Nat):Int),((x.spoilt:Nat):Int),((x.lacked:Nat):Int)]=[sN (eD x),_,_,_];rw[QD];rfl
theorem sg(h:Sim V d.now):gY d (act d .water) (CU V):=by
 refine⟨rfl,?_⟩;have t:=h.w.tanks;show [((d.now.water.fresh:Nat):Int),((d.now.water.grey:Nat):Int),((d.now.water.black:Nat):Int),((d.now.aboard*d.now.water.uses:Nat):Int)]=_;unfold CU;rw[h.p.here,t.fresh,t.grey,t.black,t.uses];push_cast;rfl
theorem zq(h:Sim V d.now):gY d (act d .sums) (LY V):=by
 refine⟨rfl,?_⟩;have p:=h.p;have t:=h.w.tanks;show [((d.now.gang.persons.length:Nat):Int),(((d.now.gang.persons.filter fun x=>x.gone).length:Nat):Int),((d.now.water.made:Nat):Int),((d.now.water.used:Nat):Int),((sum (d.now.stores.goods.map fun g=>g.loaded):Nat):Int),((d.now.late:Nat):Int)]=_;unfold LY oT;have hgone:(fB V.aF 2).length=(d.now.gang.persons.filter fun x=>x.gone).length:=by
  unfold fB;rw[←wQ (⟨0,none,false,0,none,true⟩:Km440.Person) (fun x=>x.gone) d.now.gang.persons,p.CO];congr 1;refine gT fun k hk=>?_;rw[p.CA hk,jp];rfl
 rw[p.CP,hgone,t.made,t.used,h.w.fC,h.w.goods,W3]
theorem ST:∀(ls:List Km442.Leg) (b h:Nat),(∀x∈ls,1≤x.hours)→∃r:Nat,nS (ls.map fR) b h=(r:Int)∧b≤r∧h≤r∧(Km442.legAt ls (r - b)).miles=0∧∀x,b≤x→h≤x→x < r→(Km442.legAt ls (x - b)).miles≠0
 |[],b,h,_=>⟨max b h,by show max (b:Int) (h:Int)=_;omega,by omega,by omega,rfl,fun x h1 h2 h3=>by omega⟩
 |y::l,b,h,hp=>by
  have hy:=hp y List.mem_cons_self
  show ∃r:Nat,(if (fR y).miles=0∧(b:Int)+(fR y).hours > (h:Int) then max (b:Int) (h:Int) else nS (l.map fR) ((b:Int)+(fR y).hours) h)=(r:Int)∧_
  have e1:(fR y).miles=((y.miles:Nat):Int):=rfl;have e2:(fR y).hours=((y.hours:Nat):Int):=rfl;rw[e1,e2]
  have leg:∀t,Km442.legAt (y::l) t=if t < y.hours then y else Km442.legAt l (t - y.hours):=fun t=>by
   show Km442.legAt (y::l) t=_;rw[Km442.legAt]
  by_cases c:y.miles=0∧h < b+y.hours
  ·rw[if_pos (by omega)];refine⟨max b h,by omega,by omega,by omega,?_,fun x h1 h2 h3=>by omega⟩;rw[leg,if_pos (by omega)];exact c.1
  ·rw[if_neg (by omega)];obtain⟨r,hr,r1,r2,r3,r4⟩:=ST l (b+y.hours) h fun x hx=>hp x (List.mem_cons_of_mem _ hx);refine⟨r,by rw[←hr];push_cast;rfl,by omega,r2,?_,fun x h1 h2 h3=>?_⟩
   ·rw[leg,if_neg (by omega),show r - b - y.hours=r - (b+y.hours) by omega];exact r3
   ·rw[leg]
    by_cases q:x - b < y.hours
    ·rw[if_pos q];intro z;exact c ⟨z,by omega⟩
    ·rw[if_neg q,show x - b - y.hours=x - (b+y.hours) by omega];exact r4 x (by omega) h2 h3
theorem sq{p:Nat→Bool}:∀(n t:Nat),t < n→p t=true→(∀x,x < t→p x=false)→(List.range n).find? p=some t:=by
 intro n
 induction n with
 |zero=>intro t h;omega
 |succ n ih=>
  intro t h1 h2 h3;rw[List.range_succ,List.find?_append]
  by_cases c:t < n
  ·rw[ih t c h2 h3];rfl
  ·have e:t=n:=by omega
   subst e;have :(List.range t).find? p=none:=List.find?_eq_none.mpr fun x hx=>by rw[h3 x (List.mem_range.mp hx)];decide
   rw[this];simp[h2]
theorem zf{p:Nat→Bool}(n:Nat)(h:∀x,x < n→p x=false):(List.range n).find? p=none:=List.find?_eq_none.mpr fun x hx=>by rw[h x (List.mem_range.mp hx)];decide
theorem ZJ{W:Way}{T:eP}{S:gC}(w:pO W T S m):kZ W=((m.larder.next:Nat):Int)∧m.stores.today < m.larder.next+1∧m.larder.next≤m.stores.last+1:=by
 have htd:today W=((m.stores.today:Nat):Int):=by
  unfold today;rw[w.hour,w.today];omega
 have hhour:m.water.hour < 24*(m.stores.today+1):=by rw[w.today];omega
 obtain⟨r,hr,_,r2,r3,r4⟩:=ST m.water.legs 0 (24*(m.stores.today+1)) w.pos;have hpf:nS W.legs 0 ((today W+1)*24)=(r:Int):=by
  rw[w.legs,htd,←hr];congr 1;push_cast;omega
 have hport:∀t,m.larder.ports.contains t=(decide (t < m.stores.last+1)&&(decide (m.stores.today≤t)&&m.portDay t)):=fun t=>by
  show((List.range (m.stores.last+1)).filter fun d=>decide (m.stores.today≤d)&&m.portDay d).contains t=_;rw[Bool.eq_iff_iff,List.contains_iff_mem,List.mem_filter,List.mem_range];simp only[Bool.and_eq_true,decide_eq_true_eq]
 have hday:∀t,m.stores.today < t→(m.portDay t=true↔∃i,i < 24∧(Km442.legAt m.water.legs (24*t+i)).miles=0):=fun t ht=>by
  unfold Machine.portDay;rw[List.any_eq_true];constructor
  ·rintro⟨i,hi,e⟩;rw[Bool.and_eq_true,beq_iff_eq] at e;exact⟨i,List.mem_range.mp hi,e.2⟩
  ·rintro⟨i,hi,e⟩;refine⟨i,List.mem_range.mpr hi,?_⟩;rw[Bool.and_eq_true,beq_iff_eq];exact⟨decide_eq_true (by omega),e⟩
 have hno:∀t,m.stores.today < t→t < r / 24→m.portDay t=false:=fun t h1 h2=>by
  cases q:m.portDay t with
  |false=>rfl
  |true=>
   obtain⟨i,hi,e⟩:=(hday t h1).1 q;exact absurd e (r4 (24*t+i) (by omega) (by omega) (by omega))
 have hyes:m.portDay (r / 24)=true:=(hday (r / 24) (by omega)).2 ⟨r % 24,by omega,by
  rw[show 24*(r / 24)+r % 24=r - 0 by omega];exact r3⟩
 have hp:∀t,(decide (m.stores.today < t)&&m.larder.ports.contains t)=(decide (m.stores.today < t)&&(decide (t < m.stores.last+1)&&m.portDay t)):=fun t=>by
  rw[hport]
  by_cases c:m.stores.today < t
  ·rw[decide_eq_true c,decide_eq_true (show m.stores.today≤t by omega)];simp
  ·rw[decide_eq_false c];rfl
 have hnext:m.larder.next=min (r / 24) (m.stores.last+1):=by
  show((List.range (m.stores.last+1)).find? fun t=>decide (m.stores.today < t)&&m.larder.ports.contains t).getD (m.stores.last+1)=_;rw[show(fun t=>decide (m.stores.today < t)&&m.larder.ports.contains t)=fun t=>(decide (m.stores.today < t)&&(decide (t < m.stores.last+1)&&m.portDay t)) from funext hp]
  by_cases c:r / 24 < m.stores.last+1
  ·rw[sq (m.stores.last+1) (r / 24) c (by rw[decide_eq_true (show m.stores.today < r / 24 by omega),decide_eq_true c,hyes];rfl) fun x hx=>by
    by_cases q:m.stores.today < x
    ·rw[hno x q hx];simp
    ·rw[decide_eq_false q];rfl]
   show r / 24=_;omega
  ·rw[zf (m.stores.last+1) fun x hx=>by
    by_cases q:m.stores.today < x
    ·rw[hno x q (by omega)];simp
    ·rw[decide_eq_false q];rfl]
   show m.stores.last+1=_;omega
 have hend:=w.end_;refine⟨?_,?_,by omega⟩
 ·unfold kZ;rw[hpf,w.last,hnext];omega
 ·rw[hnext,w.today];omega
end
end CS
namespace CSL
open Km438
theorem tp(l:Lots)(t:Nat):fresh_ (fresh_ l t) t=fresh_ l t:=by
 unfold fresh_;rw[List.filter_filter];simp
theorem du(ns:List Nat)(t:Nat)(l:Lots):dT ns t (fresh_ l t)=dT ns t l:=by
 cases ns with
 |nil=>rfl
 |cons n r=>unfold dT;rw[tp]
theorem Cs{l:Lots}{t:Nat}(h:∀x∈l,t≤x.1):fresh_ l t=l:=by
 unfold fresh_;exact List.filter_eq_self.mpr fun x hx=>decide_eq_true (h x hx)
theorem g9(x:Nat):∀(k t:Nat),fQ (dT (List.replicate k x) t [])=k*x
 |0,_=>by rw[Nat.zero_mul];rfl
 |k+1,t=>by
  rw[List.replicate_succ];show(eat x []).2+fQ (dT (List.replicate k x) (t+1) (eat x []).1)=_;show x+fQ (dT (List.replicate k x) (t+1) [])=_;rw[g9 x k,Nat.add_mul];omega
theorem eat_le:∀(l:Lots) (n:Nat),(eat n l).2≤n:=by
 intro l
 induction l with
 |nil=>intro n;exact Nat.le_refl _
 |cons x l ih=>
  intro n;obtain⟨e,a⟩:=x;unfold eat
  by_cases c:a≤n
  ·rw[if_pos c];have:=ih (n - a);omega
  ·rw[if_neg c];exact Nat.zero_le _
theorem se(E x:Nat):∀(k t:Nat) (l:Lots),mK E (dT (List.replicate k x) t l)=decide (0 < fQ (dT (List.replicate k x) t l)∧E+1 < t+k)
 |0,t,l=>by
  have e:fQ (dT (List.replicate 0 x) t l)=0:=rfl;rw[e,decide_eq_false (by omega)];rfl
 |k+1,t,l=>by
  rw[List.replicate_succ];show((decide (E < t)&&(eat x (fresh_ l t)).2 != 0)||mK E (dT (List.replicate k x) (t+1) (eat x (fresh_ l t)).1))=decide (0 < (eat x (fresh_ l t)).2+fQ (dT (List.replicate k x) (t+1) (eat x (fresh_ l t)).1)∧E+1 < t+(k+1));have ih:=se E x k (t+1) (eat x (fresh_ l t)).1;rw[ih];have hle:=eat_le (fresh_ l t) x;have hl:=ez (fresh_ l t) x;generalize (eat x (fresh_ l t)).2=s at*;generalize (eat x (fresh_ l t)).1=l' at*
  by_cases c:s=0
  ·subst c;simp only[bne_self_eq_false,Bool.and_false,Bool.false_or];rw[show 0+fQ (dT (List.replicate k x) (t+1) l')=fQ (dT (List.replicate k x) (t+1) l') by omega,show t+1+k=t+(k+1) by omega]
  ·rw[hl c,g9];have hs:(s != 0)=true:=bne_iff_ne.mpr c;rw[hs,Bool.and_true]
   by_cases hk:k=0
   ·subst hk;rw[Nat.zero_mul]
    by_cases q:E < t
    ·rw[decide_eq_true q,decide_eq_true (show 0 < s+0∧E+1 < t+(0+1) by omega)];rfl
    ·rw[decide_eq_false q,decide_eq_false (show ¬(0 < 0∧E+1 < t+1+0) by omega),decide_eq_false (show ¬(0 < s+0∧E+1 < t+(0+1)) by omega)];rfl
   ·have hkx:0 < k*x:=Nat.mul_pos (by omega) (by omega)
    by_cases q:E+1 < t+(k+1)
    ·rw[decide_eq_true (show 0 < k*x∧E+1 < t+1+k by omega),decide_eq_true (show 0 < s+k*x∧E+1 < t+(k+1) by omega)];simp
    ·rw[decide_eq_false (show ¬(0 < k*x∧E+1 < t+1+k) by omega),decide_eq_false (show ¬(0 < s+k*x∧E+1 < t+(k+1)) by omega),decide_eq_false (show ¬E < t by omega)];rfl
end CSL
namespace CS
open Km443
section
variable{V:aU}{d:Desk}{P:cZ}{m:Machine}
theorem TR(n:Nat):∀(k t:Nat) (g:Km438.Good),Pos g.lots→(∀x∈g.lots,t≤x.1)→
  (lO ((g.per:Nat):Int) ((n:Nat):Int) k t (eD g)).lacked=((g.lacked+CSL.fQ (CSL.dT (List.replicate k (n*g.per)) t g.lots):Nat):Int)
 |0,t,g,_,_=>by show((g.lacked:Nat):Int)=((g.lacked+0:Nat):Int);rfl
 |k+1,t,g,hp,hl=>by
  have e1:((g.per:Nat):Int)*((n:Nat):Int)=((n*g.per:Nat):Int):=by push_cast;exact Int.mul_comm _ _
  have e2:((t:Nat):Int)+1=((t+1:Nat):Int):=by push_cast;rfl
  obtain⟨ds,dp⟩:=Q8 g (n*g.per) t hp;show(lO ((g.per:Nat):Int) ((n:Nat):Int) k (((t:Nat):Int)+1) (pK (eat (eD g) (((g.per:Nat):Int)*((n:Nat):Int))) (((t:Nat):Int)+1))).lacked=_;rw[e1,e2,ds];have hper:(g.day (n*g.per) t).per=g.per:=rfl;have ih:=TR n k (t+1) (g.day (n*g.per) t) dp (fun x hx=>by
   have hx2:x∈Km438.fresh_ (Km438.eat (n*g.per) g.lots).1 (t+1):=hx;unfold Km438.fresh_ at hx2;exact of_decide_eq_true (List.mem_filter.mp hx2).2)
  rw[hper] at ih;rw[ih];have hlots:(g.day (n*g.per) t).lots=Km438.fresh_ (Km438.eat (n*g.per) g.lots).1 (t+1):=rfl;have hlk:(g.day (n*g.per) t).lacked=g.lacked+(Km438.eat (n*g.per) g.lots).2:=rfl;rw[hlots,CSL.du,hlk,List.replicate_succ];show _=((g.lacked+((Km438.eat (n*g.per) (Km438.fresh_ g.lots t)).2+CSL.fQ (CSL.dT (List.replicate k (n*g.per)) (t+1) (Km438.eat (n*g.per) (Km438.fresh_ g.lots t)).1)):Nat):Int);rw[CSL.Cs hl];push_cast;omega
theorem gk{W:Way}{T:eP}{S:gC}(w:pO W T S m)(g:Nat):m.larder.needs g m.stores.today m.larder.next=List.replicate (m.larder.next - m.stores.today) (m.aboard*(m.stores.good g).per):=by
 have hn:=(ZJ w).2.2;unfold Km438.Ship.needs;refine List.ext_getElem? fun i=>?_;rw[List.getElem?_map,List.getElem?_replicate]
 by_cases c:i < m.larder.next - m.stores.today
 ·rw[List.getElem?_range c,if_pos c];simp only[Option.map_some];congr 1;unfold Km438.Ship.need;have hp:m.larder.persons=List.replicate (m.stores.last+1) m.aboard:=rfl;rw[hp,List.getD_eq_getElem?_getD,List.getElem?_replicate,if_pos (by omega)];rfl
 ·rw[if_neg c,List.getElem?_eq_none (by rw[List.length_range];omega)];rfl
theorem iz(h:Sim V m){g:Nat}{x:Km438.Good}(hx:m.stores.goods[g]? =some x):mV V (eD x)=((CSL.fQ (CSL.dT (m.larder.needs g m.stores.today m.larder.next) m.stores.today x.lots):Nat):Int):=by
 have w:=h.w;have hok:=w.lots x (List.mem_of_getElem? hx);obtain⟨n1,n2,n3⟩:=ZJ w;have htd:today V.way=((m.stores.today:Nat):Int):=by
  unfold today;rw[w.hour,w.today];omega
 have hgood:m.stores.good g=x:=by
  unfold Km438.Ship.good;rw[List.getD_eq_getElem?_getD,hx];rfl
 unfold mV O8;rw[h.p.count,htd,n1,gk w,hgood];have hk:(((m.larder.next:Nat):Int) - ((m.stores.today:Nat):Int)).toNat=m.larder.next - m.stores.today:=by omega
 rw[hk];have:=TR m.aboard (m.larder.next - m.stores.today) m.stores.today x hok.pos hok.low;show(lO ((x.per:Nat):Int) ((m.aboard:Nat):Int) _ _ (eD x)).lacked - ((x.lacked:Nat):Int)=_;rw[this];push_cast;omega
theorem yk(h:Sim V d.now)(g:Nat):gY d (act d (.least g)) (xM V g):=by
 refine⟨rfl,?_⟩;have w:=h.w
 show told (if d.now.stores.goods.length≤g then only (-2) else match d.now.larder.least g with
   |none=>only (-33)
   |some n=>⟨((n:Nat):Int),[d.now.larder.next]⟩)=_
 have hl:V.stores.goods.length=d.now.stores.goods.length:=by rw[w.goods,List.length_map]
 unfold xM;rw[hl]
 by_cases c:d.now.stores.goods.length≤g
 ·rw[if_pos c,if_pos (by omega)];rfl
 ·rw[if_neg c,if_neg (by omega)];have hx:d.now.stores.goods[g]? =some (d.now.stores.goods[g]'(by omega)):=List.getElem?_eq_getElem (by omega);generalize d.now.stores.goods[g]'(by omega)=x at hx;have hok:=w.lots x (List.mem_of_getElem? hx);have eG:V.stores.goods.getD ((g:Nat):Int).toNat ⟨0,0,[],0,0,0,0⟩=eD x:=by
   rw[Int.toNat_natCast,List.getD_eq_getElem?_getD,P7 w,hx];rfl
  have hgood:d.now.stores.good g=x:=by
   unfold Km438.Ship.good;rw[List.getD_eq_getElem?_getD,hx];rfl
  have hgl:d.now.larder.good g=x:=hgood;obtain⟨n1,n2,n3⟩:=ZJ w;have htd:today V.way=((d.now.stores.today:Nat):Int):=by
   unfold today;rw[w.hour,w.today];omega
  simp only[];rw[eG,iz h hx,htd,n1];have ha:=h.o6;have hl60:=w.tE;have hneed:=gk w g;rw[hgood] at hneed;have hz:(d.now.larder.needs g d.now.larder.today d.now.larder.next).sum < 2 ^ 64:=by
   show(d.now.larder.needs g d.now.stores.today d.now.larder.next).sum < 2 ^ 64;rw[hneed,List.sum_replicate_nat];have a1:d.now.aboard*x.per≤16*1000:=Nat.mul_le_mul ha hok.per3;have a2:(d.now.larder.next - d.now.stores.today)*(d.now.aboard*x.per)≤61*(16*1000):=Nat.mul_le_mul (by omega) a1;omega
  have hle:=CSL.Fb d.now.larder g (by rw[hgl];exact hok.pos) hz;rw[hgl] at hle
  have hle':d.now.larder.least g=if CSL.mK (d.now.stores.today+x.life) (CSL.dT (d.now.larder.needs g d.now.stores.today d.now.larder.next) d.now.stores.today x.lots)=true then none else some (CSL.fQ (CSL.dT (d.now.larder.needs g d.now.stores.today d.now.larder.next) d.now.stores.today x.lots)):=hle
  rw[hle',hneed,CSL.se];generalize CSL.fQ (CSL.dT (List.replicate (d.now.larder.next - d.now.stores.today) (d.now.aboard*x.per)) d.now.stores.today x.lots)=q;have hlife:(eD x).life=((x.life:Nat):Int):=rfl;rw[hlife]
  by_cases z:0 < q∧d.now.stores.today+x.life+1 < d.now.stores.today+(d.now.larder.next - d.now.stores.today)
  ·rw[decide_eq_true z,if_pos rfl,if_pos (by omega)];rfl
  ·rw[decide_eq_false z,if_neg (by decide),if_neg (by omega)];rfl
theorem vj(h:Sim V d.now):gY d (act d .short) (CQ V):=by
 refine⟨rfl,?_⟩;have w:=h.w;have hl:V.stores.goods.length=d.now.stores.goods.length:=by rw[w.goods,List.length_map]
 have hs:nB V=(List.range d.now.stores.goods.length).filter fun g=>!(d.now.larder.enough g 0):=by
  unfold nB;refine rB hl fun g hg=>?_;rw[hl] at hg;have hx:d.now.stores.goods[g]? =some (d.now.stores.goods[g]'hg):=List.getElem?_eq_getElem hg;generalize d.now.stores.goods[g]'hg=x at hx;have hok:=w.lots x (List.mem_of_getElem? hx);have eG:V.stores.goods.getD g ⟨0,0,[],0,0,0,0⟩=eD x:=by
   rw[List.getD_eq_getElem?_getD,P7 w,hx];rfl
  have hgl:d.now.larder.good g=x:=by
   show d.now.stores.goods.getD g _=x;rw[List.getD_eq_getElem?_getD,hx];rfl
  rw[eG,iz h hx,CSL.vy d.now.larder g (by rw[hgl];exact hok.pos),hgl];show _=!decide (CSL.fQ (CSL.dT (d.now.larder.needs g d.now.stores.today d.now.larder.next) d.now.stores.today x.lots)=0);generalize CSL.fQ (CSL.dT (d.now.larder.needs g d.now.stores.today d.now.larder.next) d.now.stores.today x.lots)=q
  by_cases z:q=0
  ·rw[decide_eq_true z,decide_eq_false (by omega)];rfl
  ·rw[decide_eq_false z,decide_eq_true (by omega)];rfl
 show [(((((List.range d.now.stores.goods.length).filter fun g=>!(d.now.larder.enough g 0)).length:Nat)):Int),((bits ((List.range d.now.stores.goods.length).filter fun g=>!(d.now.larder.enough g 0)):Nat):Int)]=_;unfold CQ;rw[hs,CI]
theorem gz{W:Way}{S0:gC}{T0:eP}(w:pO W T0 S0 m)(n:Nat):∀(f h:Nat) (T:eP) (s:Km442.Ship),uV T s→s.legs=m.water.legs→s.hour=m.water.hour+h→s.persons=n→s.wants < 2 ^ 64→lastsGo W n f h T=Km442.lastsGo f h s
 |0,_,_,_,_,_,_,_,_=>rfl
 |f+1,h,T,s,ht,hl,hh,hp,hw=>by
  have hleg:s.leg s.hour=m.water.leg (m.water.hour+h):=by
   unfold Km442.Ship.leg;rw[hl,hh]
  have e:W.hour+((h:Nat):Int)=((m.water.hour+h:Nat):Int):=by rw[w.hour];push_cast;rfl
  obtain⟨t1,t2,t3⟩:=R6 ht hleg hp hw
  show(if mJ T (eH W (W.hour+(h:Nat))) (eR W (W.hour+(h:Nat))) n > 0 then h else lastsGo W n f (h+1) (iU T (eH W (W.hour+(h:Nat))) (eR W (W.hour+(h:Nat))) n))=if s.lacked < s.hourly.lacked then h else Km442.lastsGo f (h+1) s.hourly
  rw[e,w.miles,w.knots,t2]
  by_cases c:s.lacked < s.hourly.lacked
  ·rw[if_pos c,if_pos (by omega)]
  ·rw[if_neg c,if_neg (by omega)];exact gz w n f (h+1) _ s.hourly t1 hl (by show s.hour+1=_;omega) hp hw
theorem yq(h:Sim V d.now):gY d (act d .lasts) (xO V):=by
 refine⟨rfl,?_⟩;have w:=h.w;have t:=w.tanks;have ha:=h.o6;have hw:d.now.tanks.wants < 2 ^ 64:=by
  show d.now.aboard*d.now.water.uses < 2 ^ 64;have :d.now.aboard*d.now.water.uses≤16*80:=Nat.mul_le_mul ha w.uses;omega
 have ht:uV V.tanks d.now.tanks:=⟨t.uses,t.fm,t.makes,t.gm,t.bm,t.fresh,t.grey,t.black,t.making,t.gg,t.bg,t.made,t.used,t.ggo,t.bgo,t.fl,t.gl,t.bl⟩;have:=gz w d.now.aboard 500 0 V.tanks d.now.tanks ht rfl rfl rfl hw;show [((Km442.lastsGo 500 0 d.now.tanks:Nat):Int)]=_;unfold xO;rw[h.p.count,this]
theorem qr:∀(k:Nat) (m:Machine),m.late≤(m.go k).late
 |0,_=>Nat.le_refl _
 |k+1,m=>by
  have h1:m.late≤m.hourly.late:=Nat.le_add_right _ _;exact Nat.le_trans h1 (qr k m.hourly)
theorem ud(h:Sim V d.now)(n:Nat):gY d (act d (.ahead n)) (xV V n):=by
 refine⟨rfl,?_⟩;have w:=h.w;have o:=nU n 1 240
 show told (if n=0∨240 < n∨24*(d.now.stores.last+1) < d.now.water.hour+n then only (-22) else
   ⟨(((d.now.go n).water.fresh:Nat):Int),[(d.now.go n).late - d.now.late,bit (d.now.go n).inPort,(d.now.go n).water.lacked - d.now.water.lacked]⟩)=_
 unfold xV kO GY;simp only[]
 by_cases c1:n=0∨240 < n
 ·rw[if_pos (show cJ ((n:Nat):Int) 1 240=true from o.2 (by omega)),if_pos (by omega)];rfl
 ·rw[if_neg (show ¬cJ ((n:Nat):Int) 1 240=true from fun q=>c1 (by have:=o.1 q;omega))]
  by_cases c2:24*(d.now.stores.last+1) < d.now.water.hour+n
  ·rw[if_pos (show V.way.hour+((n:Nat):Int) > (V.way.last+1)*24 by rw[w.hour,w.last];omega),if_pos (by omega)];rfl
  ·rw[if_neg (show ¬V.way.hour+((n:Nat):Int) > (V.way.last+1)*24 by rw[w.hour,w.last];omega),if_neg (by omega)];obtain⟨i1,i2,i3,i4⟩:=Sim.hours n 0 h (by omega);rw[Int.toNat_natCast];have hlate:d.now.late≤(d.now.go n).late:=qr n d.now;have hs:=i1.w.sea
   rw[if_neg (show ¬([(dU n V 0).1.way.hour,(dU n V 0).1.way.fC - V.way.fC,(dU n V 0).2,if gP (dU n V 0).1.way=true then 0 else 1]:List Int).getD 0 0 < 0 by
    show ¬(dU n V 0).1.way.hour < 0;rw[i1.w.hour];omega)]
   show [(((d.now.go n).water.fresh:Nat):Int),(((d.now.go n).late - d.now.late:Nat):Int),((bit (d.now.go n).inPort:Nat):Int),(((d.now.go n).water.lacked - d.now.water.lacked:Nat):Int)]=[(dU n V 0).1.tanks.fresh,(dU n V 0).1.way.fC - V.way.fC,(if gP (dU n V 0).1.way=true then 0 else 1),(dU n V 0).2]
   rw[i1.w.tanks.fresh,i1.w.fC,w.fC,i2,hs];have e1:(((d.now.go n).late - d.now.late:Nat):Int)=(((d.now.go n).late:Nat):Int) - ((d.now.late:Nat):Int):=by omega
   have e2:(0:Int)+(((d.now.go n).water.lacked - d.now.water.lacked:Nat):Int)=(((d.now.go n).water.lacked - d.now.water.lacked:Nat):Int):=by omega
   rw[e1,e2];unfold bit;cases (d.now.go n).inPort <;> rfl
end
section
variable{V:aU}{m:Machine}{D:Desk}{Y:Voy}
def nJ(vs:List aU)(ms:List Machine):Prop:=vs.length=ms.length∧∀(i:Nat) v m,vs[i]? =some v→ms[i]? =some m→Sim v m
theorem nJ.nil:nJ [] []:=⟨rfl,fun i v m e=>by simp at e⟩
theorem nJ.cons{vs:List aU}{ms:List Machine}(h:nJ vs ms)(hv:Sim V m):nJ (V::vs) (m::ms):=by
 refine⟨by rw[List.length_cons,List.length_cons,h.1],fun i v q e1 e2=>?_⟩
 cases i with
 |zero=>
  have a1:V=v:=Option.some.inj e1;have a2:m=q:=Option.some.inj e2;rw[←a1,←a2];exact hv
 |succ i=>exact h.2 i v q (by simpa using e1) (by simpa using e2)
theorem nJ.take{vs:List aU}{ms:List Machine}(h:nJ vs ms)(n:Nat):nJ (vs.take n) (ms.take n):=by
 refine⟨by rw[List.length_take,List.length_take,h.1],fun i v q e1 e2=>?_⟩;have hi:i < n:=by
  have:=(List.getElem?_eq_some_iff.mp e1).1;rw[List.length_take] at this;omega
 rw[List.getElem?_take_of_lt hi] at e1 e2;exact h.2 i v q e1 e2
theorem nJ.head{vs:List aU}{ms:List Machine}(h:nJ (V::vs) (m::ms)):Sim V m∧nJ vs ms:=by
 refine⟨h.2 0 V m rfl rfl,⟨by have:=h.1;simpa using this,fun i v q e1 e2=>h.2 (i+1) v q (by simpa using e1) (by simpa using e2)⟩⟩
structure pZ(Y:Voy)(D:Desk):Prop where
 now:∃V,Y.now=some V∧Sim V D.now
 past:nJ Y.past.reverse D.past
 und:nJ Y.cW.reverse D.future
 few:Y.past.length+Y.cW.length≤20
theorem jo(p:List aU)(v:aU)(h:p.length≤20):(nP p v).reverse=(v::p.reverse).take 20:=by
 unfold nP;rw[List.length_append];simp only[List.length_cons,List.length_nil]
 by_cases c:p.length+(0+1) > 20
 ·rw[if_pos c]
  cases p with
  |nil=>exact absurd c (by simp)
  |cons a p=>
   rw[List.cons_append];show(p++[v]).reverse=(v::(a::p).reverse).take 20;have hl:(v::p.reverse).length=20:=by
    rw[List.length_cons] at h c;rw[List.length_cons,List.length_reverse];omega
   have e1:(p++[v]).reverse=v::p.reverse:=by rw[List.reverse_append];rfl
   have e2:v::(a::p).reverse=(v::p.reverse)++[a]:=by rw[List.reverse_cons];rfl
   rw[e1,e2,List.take_append_of_le_length (by omega),List.take_of_length_le (by omega)]
 ·rw[if_neg c,List.reverse_append];show v::p.reverse=_;rw[List.take_of_length_le (by rw[List.length_cons,List.length_reverse];omega)]
theorem Fa(p:List aU)(v:aU)(h:p.length≤20):(nP p v).length≤20:=by
 have:=congrArg List.length (jo p v h);rw[List.length_reverse,List.length_take] at this;omega
def pN(r:Desk×Ans)(x:Voy×List Int):Prop:=x.2=told r.2∧pZ x.1 r.1
theorem Gz(hY:pZ Y D)(hV:Y.now=some V){r:Desk×Ans}{c:Int}{l:List Int}(h:oB D r V (nR V c l))(hs:Sim V D.now):pN r (rH Y V c l):=by
 unfold rH;simp only[]
 rcases h with⟨v,hv,e1,e2⟩ |⟨m',a,ha,e1,e2,e3⟩
 ·rw[e1,e2];rw[if_neg (show ¬[v].getD 0 0≥0 by show ¬v≥0;omega)];exact⟨rfl,hY⟩
 ·rw[e1,e2];rw[if_pos (show(told a).getD 0 0≥0 from ha)];have hp:Y.past.length≤20:=by have:=hY.few;omega
  refine⟨rfl,⟨_,rfl,e3⟩,?_,nJ.nil,?_⟩
  ·show nJ (nP Y.past V).reverse ((D.now::D.past).take 20);rw[jo _ _ hp];exact(hY.past.cons hs).take 20
  ·show(nP Y.past V).length+0≤20;exact Fa _ _ hp
theorem Dt(hY:pZ Y D){r:Desk×Ans}{x:List Int}(h:gY D r x):pN r (Y,x):=by
 obtain⟨h1,h2⟩:=h;exact⟨h2.symm,by show pZ Y r.1;rw[h1];exact hY⟩
theorem Do(hY:pZ Y D)(hs:Sim V D.now):pN (act D .back) (DH Y V):=by
 unfold DH;have hp:=hY.past
 show pN (match D.past with
   |[]=>(D,only (-2))
   |k::r=>(⟨k,r,D.now::D.future⟩,only ((r.length:Nat):Int))) _
 cases e:Y.past.reverse with
 |nil=>
  have e0:Y.past=[]:=by simpa using e
  rw[e] at hp;have ed:D.past=[]:=by
   have:=hp.1
   cases hd:D.past with
   |nil=>rfl
   |cons a b=>rw[hd] at this;simp at this
  rw[e0,ed];exact⟨rfl,hY⟩
 |cons x xs=>
  have e0:Y.past=xs.reverse++[x]:=by
   have:=congrArg List.reverse e;rw[List.reverse_reverse,List.reverse_cons] at this;exact this
  rw[e] at hp
  cases hd:D.past with
  |nil=>rw[hd] at hp;exact absurd hp.1 (by simp)
  |cons k r=>
   rw[hd] at hp;obtain⟨h1,h2⟩:=hp.head;rw[e0,List.getLast?_concat,List.dropLast_concat];have hfew:=hY.few;rw[e0,List.length_append] at hfew;simp only[List.length_cons,List.length_nil] at hfew;refine⟨?_,⟨x,rfl,h1⟩,?_,?_,?_⟩
   ·show [((xs.reverse.length:Nat):Int)]=[((r.length:Nat):Int)];rw[List.length_reverse,h2.1]
   ·show nJ xs.reverse.reverse r;rw[List.reverse_reverse];exact h2
   ·show nJ (Y.cW++[V]).reverse (D.now::D.future);rw[List.reverse_append];exact hY.und.cons hs
   ·show xs.reverse.length+(Y.cW++[V]).length≤20;rw[List.length_append];simp only[List.length_cons,List.length_nil];omega
theorem Ac(hY:pZ Y D)(hs:Sim V D.now):pN (act D .again) (yN Y V):=by
 unfold yN;have hp:=hY.und
 show pN (match D.future with
   |[]=>(D,only (-2))
   |k::r=>(⟨k,(D.now::D.past).take PAST,r⟩,only ((r.length:Nat):Int))) _
 cases e:Y.cW.reverse with
 |nil=>
  have e0:Y.cW=[]:=by simpa using e
  rw[e] at hp;have ed:D.future=[]:=by
   have:=hp.1
   cases hd:D.future with
   |nil=>rfl
   |cons a b=>rw[hd] at this;simp at this
  rw[e0,ed];exact⟨rfl,hY⟩
 |cons x xs=>
  have e0:Y.cW=xs.reverse++[x]:=by
   have:=congrArg List.reverse e;rw[List.reverse_reverse,List.reverse_cons] at this;exact this
  rw[e] at hp
  cases hd:D.future with
  |nil=>rw[hd] at hp;exact absurd hp.1 (by simp)
  |cons k r=>
   rw[hd] at hp;obtain⟨h1,h2⟩:=hp.head;rw[e0,List.getLast?_concat,List.dropLast_concat];have hfew:=hY.few;rw[e0,List.length_append] at hfew;simp only[List.length_cons,List.length_nil] at hfew;have hpl:D.past.length=Y.past.length:=by rw[←hY.past.1,List.length_reverse]
   have htk:(D.now::D.past).take PAST=D.now::D.past:=List.take_of_length_le (by
    rw[List.length_cons];show D.past.length+1≤20;omega)
   rw[htk];refine⟨?_,⟨x,rfl,h1⟩,?_,?_,?_⟩
   ·show [((xs.reverse.length:Nat):Int)]=[((r.length:Nat):Int)];rw[List.length_reverse,h2.1]
   ·show nJ (Y.past++[V]).reverse (D.now::D.past);rw[List.reverse_append];exact hY.past.cons hs
   ·show nJ xs.reverse.reverse r;rw[List.reverse_reverse];exact h2
   ·show(Y.past++[V]).length+xs.reverse.length≤20;rw[List.length_append];simp only[List.length_cons,List.length_nil];omega
theorem Cq(hY:pZ Y D)(hs:Sim V D.now):pN (act D .state) (Y,yD Y V):=by
 refine⟨?_,hY⟩;have w:=hs.w;have hpl:Y.past.length=D.past.length:=by rw[←hY.past.1,List.length_reverse]
 have hul:Y.cW.length=D.future.length:=by rw[←hY.und.1,List.length_reverse]
 have htd:today V.way=((D.now.stores.today:Nat):Int):=by
  unfold today;rw[w.hour,w.today];omega
 show yD Y V=[((D.now.water.hour:Nat):Int),((D.now.stores.today:Nat):Int),((D.now.water.legs.length:Nat):Int),((D.now.stores.goods.length:Nat):Int),((D.now.cabins.parties.length:Nat):Int),((D.past.length:Nat):Int),((D.future.length:Nat):Int)];unfold yD;rw[htd,w.hour,w.legs,w.goods,hs.p.kR,hpl,hul,List.length_map,List.length_map]
theorem Ep(a u f k g b r l:Nat):RE a u f k g b r l=!okStart a u f k g b r l:=by
 have o:∀n lo hi:Nat,cJ (n:Int) lo hi=!(decide (lo≤n)&&decide (n≤hi)):=fun n lo hi=>by
  unfold cJ
  by_cases c1:lo≤n
  ·rw[decide_eq_true c1,decide_eq_false (show ¬(n:Int) < lo by omega)]
   by_cases c2:n≤hi
   ·rw[decide_eq_true c2,decide_eq_false (show ¬(n:Int) > hi by omega)];rfl
   ·rw[decide_eq_false c2,decide_eq_true (show(n:Int) > hi by omega)];rfl
  ·rw[decide_eq_false c1,decide_eq_true (show(n:Int) < lo by omega)];rfl
 have o1:=o a 1 16;have o2:∀n:Nat,cJ (n:Int) 1 10000000=!(decide (1≤n)&&decide (n≤10000000)):=fun n=>o n 1 10000000;have o3:=o r 1 1000000000;have o4:=o l 1 60;have o5:decide ((u:Int) > 80)=!decide (u≤80):=by
  by_cases c:u≤80
  ·rw[decide_eq_true c,decide_eq_false (by omega)];rfl
  ·rw[decide_eq_false c,decide_eq_true (by omega)];rfl
 unfold RE;simp only[List.map_cons,List.map_nil,List.any_cons,List.any_nil,id_eq];rw[o2,o2,o2,o2,o5];rw[show cJ (a:Int) 1 16=_ from o1,show cJ (r:Int) 1 1000000000=_ from o3,show cJ (l:Int) 1 60=_ from o4];show _=!(decide (1≤a)&&(decide (a≤16)&&(decide (u≤80)&&(([f,k,g,g,b,b].all fun x=>decide (1≤x)&&decide (x≤10000000))&&(decide (1≤l)&&(decide (l≤60)&&(decide (1≤r)&&(decide (r≤1000000000)&&decide (0≤5000)))))))));simp only[List.all_cons,List.all_nil,Bool.and_true];generalize decide (1≤a)=b1;generalize decide (a≤16)=b2;generalize decide (u≤80)=b3;generalize (decide (1≤f)&&decide (f≤10000000))=b4;generalize (decide (1≤k)&&decide (k≤10000000))=b5;generalize (decide (1≤g)&&decide (g≤10000000))=b6;generalize (decide (1≤b)&&decide (b≤10000000))=b7;generalize decide (1≤l)=b8;generalize decide (l≤60)=b9;generalize decide (1≤r)=b10;generalize decide (r≤1000000000)=b11;cases b1 <;> cases b2 <;> cases b3 <;> simp;cases b4 <;> cases b5 <;> cases b6 <;> cases b7 <;> simp;cases b8 <;> cases b9 <;> cases b10 <;> cases b11 <;> rfl
theorem ux(a u f k g b r l:Nat)(h:okStart a u f k g b r l=true):Sim (rT a u f k g b r l) (opened a u f k g b r l):=by
 have h':(decide (1≤a)&&(decide (a≤16)&&(decide (u≤80)&&(([f,k,g,g,b,b].all fun x=>decide (1≤x)&&decide (x≤10000000))&&(decide (1≤l)&&(decide (l≤60)&&(decide (1≤r)&&(decide (r≤1000000000)&&decide (0≤5000)))))))))=true:=h;simp only[Bool.and_eq_true,decide_eq_true_eq] at h';obtain⟨h1,h2,h3,_,h5,h6,_⟩:=h';refine⟨⟨rfl,rfl,rfl,rfl,(by show 0=0 / 24;decide),⟨rfl,rfl,rfl,rfl,rfl,rfl,rfl,rfl,rfl,rfl,rfl,rfl,rfl,rfl,rfl,Nat.le_refl _,Nat.zero_le _,Nat.zero_le _⟩,h3,rfl,rfl,fun x hx=>absurd hx (by simp[opened,Km438.opened]),Nat.zero_le _,Nat.zero_le _,Nat.zero_le _,fun x hx=>absurd hx (by simp[opened,Km442.opened]),h6⟩,?_,Nat.zero_le _⟩;exact {
  most:=rfl
  wJ:=h2
  cabins:=rfl
  shut:=fun c hc=>absurd hc (by simp[opened,Km437.opened])
  DC:=Nat.zero_le _
  aM:=rfl
  QR:=Nat.zero_le _
  cards:=rfl
  card:=fun i x hx=>absurd hx (by simp[opened,gangOf,Km440.opened])
  FY:=rfl
  DP:=fun x hx=>absurd hx (Nat.not_lt_zero _)
  persons:=rfl
  bR:=rfl
  seen:=rfl
  pT:=fun x _=>by
   show(List.replicate 16 0).getD x 0=0;rw[List.getD_eq_getElem?_getD,List.getElem?_replicate]
   split <;> rfl
  know:=fun x=>.inl (by
   show(List.replicate 16 0).getD x 0=0;rw[List.getD_eq_getElem?_getD,List.getElem?_replicate]
   split <;> rfl)
  me:=rfl
  minute:=rfl
  drill:=rfl
  lL:=Nat.zero_le _
  gate:=⟨⟨false,0,0⟩,rfl,rfl,rfl,rfl,Nat.zero_le _,Nat.zero_le _⟩
  rung:=rfl
  wW:=Nat.zero_le _
  kR:=rfl
  BW:=Nat.zero_le _
  parties:=fun i x q h1 h2=>absurd h2 (by simp[opened,Km437.opened]) }
theorem V0(d:Desk)(Y0:Voy)(a u f k g b r l:Nat):
  (okStart a u f k g b r l=false∧act d (.start a u f k g b r l)=(d,only (-22))∧qJ Y0 a u f k g b r l=(Y0,[-22]))∨
  (act d (.start a u f k g b r l)=(⟨opened a u f k g b r l,[],[]⟩,only 0)∧qJ Y0 a u f k g b r l=(⟨some (rT a u f k g b r l),[],[]⟩,[0])∧pZ ⟨some (rT a u f k g b r l),[],[]⟩ ⟨opened a u f k g b r l,[],[]⟩):=by
 have e0:act d (.start a u f k g b r l)=if okStart a u f k g b r l=false then(d,only (-22)) else(⟨opened a u f k g b r l,[],[]⟩,only 0):=rfl
 unfold qJ;rw[Ep,e0]
 cases c:okStart a u f k g b r l with
 |false=>exact .inl ⟨rfl,by rw[if_pos rfl],by rw[if_pos (by rfl)]⟩
 |true=>exact .inr ⟨by rw[if_neg (by decide)],by rw[if_neg (by decide)],⟨_,rfl,ux a u f k g b r l c⟩,nJ.nil,nJ.nil,Nat.zero_le _⟩
end
theorem Ai{c:Int}(h0:0≤c)(h1:c≤32):c=0∨c=1∨c=2∨c=3∨c=4∨c=5∨c=6∨c=7∨c=8∨c=9∨c=10∨c=11∨c=12∨c=13∨c=14∨c=15∨c=16∨c=17∨c=18∨c=19∨c=20∨c=21∨c=22∨c=23∨c=24∨c=25∨c=26∨c=27∨c=28∨c=29∨c=30∨c=31∨c=32:=by omega
section
variable{V:aU}{D:Desk}{Y:Voy}
def YRel(Y:Voy):Option Desk→Prop
 |none=>Y=⟨none,[],[]⟩
 |some D=>pZ Y D
theorem gW{x:Int}(h:0≤x):∃n:Nat,x=((n:Nat):Int):=⟨x.toNat,by omega⟩
theorem rC{l:List Int}(h:l.length=0):l=[]:=List.length_eq_zero_iff.mp h
theorem vY{l:List Int}(h:l.length=1)(hn:∀x∈l,0≤x):∃x0:Nat,l=[((x0:Nat):Int)]:=by
 match l,h,hn with
 |[a0],_,hn=>
  obtain⟨x0,e0⟩:=gW (hn a0 (by simp));exact⟨x0,by rw[e0]⟩
theorem yl{l:List Int}(h:l.length=2)(hn:∀x∈l,0≤x):∃x0 x1:Nat,l=[((x0:Nat):Int),((x1:Nat):Int)]:=by
 match l,h,hn with
 |[a0,a1],_,hn=>
  obtain⟨x0,e0⟩:=gW (hn a0 (by simp));obtain⟨x1,e1⟩:=gW (hn a1 (by simp));exact⟨x0,x1,by rw[e0,e1]⟩
theorem list3{l:List Int}(h:l.length=3)(hn:∀x∈l,0≤x):∃x0 x1 x2:Nat,l=[((x0:Nat):Int),((x1:Nat):Int),((x2:Nat):Int)]:=by
 match l,h,hn with
 |[a0,a1,a2],_,hn=>
  obtain⟨x0,e0⟩:=gW (hn a0 (by simp));obtain⟨x1,e1⟩:=gW (hn a1 (by simp));obtain⟨x2,e2⟩:=gW (hn a2 (by simp));exact⟨x0,x1,x2,by rw[e0,e1,e2]⟩
theorem list4{l:List Int}(h:l.length=4)(hn:∀x∈l,0≤x):∃x0 x1 x2 x3:Nat,l=[((x0:Nat):Int),((x1:Nat):Int),((x2:Nat):Int),((x3:Nat):Int)]:=by
 match l,h,hn with
 |[a0,a1,a2,a3],_,hn=>
  obtain⟨x0,e0⟩:=gW (hn a0 (by simp));obtain⟨x1,e1⟩:=gW (hn a1 (by simp));obtain⟨x2,e2⟩:=gW (hn a2 (by simp));obtain⟨x3,e3⟩:=gW (hn a3 (by simp));exact⟨x0,x1,x2,x3,by rw[e0,e1,e2,e3]⟩
theorem list5{l:List Int}(h:l.length=5)(hn:∀x∈l,0≤x):∃x0 x1 x2 x3 x4:Nat,l=[((x0:Nat):Int),((x1:Nat):Int),((x2:Nat):Int),((x3:Nat):Int),((x4:Nat):Int)]:=by
 match l,h,hn with
 |[a0,a1,a2,a3,a4],_,hn=>
  obtain⟨x0,e0⟩:=gW (hn a0 (by simp));obtain⟨x1,e1⟩:=gW (hn a1 (by simp));obtain⟨x2,e2⟩:=gW (hn a2 (by simp));obtain⟨x3,e3⟩:=gW (hn a3 (by simp));obtain⟨x4,e4⟩:=gW (hn a4 (by simp));exact⟨x0,x1,x2,x3,x4,by rw[e0,e1,e2,e3,e4]⟩
theorem list8{l:List Int}(h:l.length=8)(hn:∀x∈l,0≤x):∃x0 x1 x2 x3 x4 x5 x6 x7:Nat,l=[((x0:Nat):Int),((x1:Nat):Int),((x2:Nat):Int),((x3:Nat):Int),((x4:Nat):Int),((x5:Nat):Int),((x6:Nat):Int),((x7:Nat):Int)]:=by
 match l,h,hn with
 |[a0,a1,a2,a3,a4,a5,a6,a7],_,hn=>
  obtain⟨x0,e0⟩:=gW (hn a0 (by simp));obtain⟨x1,e1⟩:=gW (hn a1 (by simp));obtain⟨x2,e2⟩:=gW (hn a2 (by simp));obtain⟨x3,e3⟩:=gW (hn a3 (by simp));obtain⟨x4,e4⟩:=gW (hn a4 (by simp));obtain⟨x5,e5⟩:=gW (hn a5 (by simp));obtain⟨x6,e6⟩:=gW (hn a6 (by simp));obtain⟨x7,e7⟩:=gW (hn a7 (by simp));exact⟨x0,x1,x2,x3,x4,x5,x6,x7,by rw[e0,e1,e2,e3,e4,e5,e6,e7]⟩
theorem Di{c:List (List Int)}{x:Call}(h:Km443Neutral.callOf c=some x)(D:Desk):Km443Neutral.step (some D) c=(some (act D x).1,told (act D x).2):=by
 unfold Km443Neutral.step;rw[h];rfl
theorem Hh(hV:Y.now=some V){c:Int}(l:List Int)(h0:¬c=0)(ho:cJ c 1 14=false):cX Y c l=rH Y V c l:=by
 unfold cX;rw[if_neg h0,hV];exact if_pos ho
theorem Du(hV:Y.now=some V){c:Int}(l:List Int)(h0:¬c=0)(ho:¬cJ c 1 14=false)(h1:¬c=30)(h2:¬c=31)(h3:¬c=32):cX Y c l=(Y,FA V c l):=by
 unfold cX;rw[if_neg h0,hV];exact(if_neg ho).trans ((if_neg h1).trans ((if_neg h2).trans (if_neg h3)))
def sh(c:Int)(ns:List Int):Prop:=∃x,Km443Neutral.callOf [c::ns]=some x∧PyKm443.whole [c::ns]=[c::ns]∧(c≠0→Km443Neutral.isStart x=false)∧∀{Y:Voy} {D:Desk} {V:aU},pZ Y D→Y.now=some V→Sim V D.now→pN (act D x) (cX Y c ns)
theorem iZ{c:Int}{ns:List Int}{x:Call}(h:∀{D:Desk} {V:aU},Sim V D.now→oB D (act D x) V (nR V c ns))(e1:Km443Neutral.callOf [c::ns]=some x:=by rfl)(e2:PyKm443.whole [c::ns]=[c::ns]:=by rfl)(e3:Km443Neutral.isStart x=false:=by rfl)(e4:¬c=0:=by decide)(e5:cJ c 1 14=false:=by decide):sh c ns:=⟨x,e1,e2,fun _=>e3,fun hY hV hs=>by rw[Hh hV _ e4 e5];exact Gz hY hV (h hs) hs⟩
theorem gS{c:Int}{ns:List Int}{x:Call}(h:∀{D:Desk} {V:aU},Sim V D.now→gY D (act D x) (FA V c ns))(e1:Km443Neutral.callOf [c::ns]=some x:=by rfl)(e2:PyKm443.whole [c::ns]=[c::ns]:=by rfl)(e3:Km443Neutral.isStart x=false:=by rfl)(e4:¬c=0∧¬cJ c 1 14=false∧¬c=30∧¬c=31∧¬c=32:=by decide):sh c ns:=⟨x,e1,e2,fun _=>e3,fun hY hV hs=>by rw[Du hV _ e4.1 e4.2.1 e4.2.2.1 e4.2.2.2.1 e4.2.2.2.2];exact Dt hY (h hs)⟩
theorem u7{c:Int}{ns:List Int}(h0:0≤c)(h1:c≤32)(hl:ns.length=cQ c)(hn:∀x∈ns,0≤x):sh c ns:=by
 rcases Ai h0 h1 with rfl |rfl |rfl |rfl |rfl |rfl |rfl |rfl |rfl |rfl |rfl |rfl |rfl |rfl |rfl |rfl |rfl |rfl |rfl |rfl |rfl |rfl |rfl |rfl |rfl |rfl |rfl |rfl |rfl |rfl |rfl |rfl |rfl
 ·obtain⟨x0,x1,x2,x3,x4,x5,x6,x7,rfl⟩:=list8 (l:=ns) hl hn;refine⟨.start x0 x1 x2 x3 x4 x5 x6 x7,rfl,rfl,fun z=>absurd rfl z,fun {Y D V} hY hV hs=>?_⟩;show pN _ (qJ Y x0 x1 x2 x3 x4 x5 x6 x7)
  rcases V0 D Y x0 x1 x2 x3 x4 x5 x6 x7 with⟨_,e1,e2⟩ |⟨e1,e2,e3⟩
  ·rw[e1,e2];exact⟨rfl,hY⟩
  ·rw[e1,e2];exact⟨rfl,e3⟩
 ·obtain⟨x0,x1,x2,rfl⟩:=list3 (l:=ns) hl hn;exact iZ (x:=.leg x0 x1 x2) fun hs=>Ea hs x0 x1 x2
 ·obtain⟨x0,x1,rfl⟩:=yl (l:=ns) hl hn;exact iZ (x:=.good x0 x1) fun hs=>Bi hs x0 x1
 ·obtain⟨x0,x1,x2,x3,x4,rfl⟩:=list5 (l:=ns) hl hn;exact iZ (x:=.cabin x0 x1 x2 x3 x4) fun hs=>xp hs x0 x1 x2 x3 x4
 ·obtain⟨x0,x1,x2,x3,rfl⟩:=list4 (l:=ns) hl hn;exact iZ (x:=.board x0 x1 x2 x3) fun hs=>ss hs x0 x1 x2 x3
 ·obtain⟨x0,rfl⟩:=vY (l:=ns) hl hn;exact iZ (x:=.leave x0) fun hs=>wq hs x0
 ·obtain⟨x0,rfl⟩:=vY (l:=ns) hl hn;exact iZ (x:=.gate x0) fun hs=>Ar hs x0
 ·obtain⟨x0,rfl⟩:=vY (l:=ns) hl hn;exact iZ (x:=.scan x0) fun hs=>Aa hs x0
 ·obtain⟨x0,x1,rfl⟩:=yl (l:=ns) hl hn;exact iZ (x:=.load x0 x1) fun hs=>zc hs x0 x1
 ·obtain⟨x0,rfl⟩:=vY (l:=ns) hl hn;exact iZ (x:=.bunker x0) fun hs=>lg hs x0
 ·obtain⟨x0,x1,rfl⟩:=yl (l:=ns) hl hn;exact iZ (x:=.shore x0 x1) fun hs=>wk hs x0 x1
 ·obtain⟨x0,x1,x2,rfl⟩:=list3 (l:=ns) hl hn;exact iZ (x:=.set_ x0 x1 x2) fun hs=>Eo hs x0 x1 x2
 ·cases rC (l:=ns) hl;exact iZ (x:=.drill) fun hs=>tf hs
 ·obtain⟨x0,rfl⟩:=vY (l:=ns) hl hn;exact iZ (x:=.in_ x0) fun hs=>Gy hs x0
 ·obtain⟨x0,rfl⟩:=vY (l:=ns) hl hn;exact iZ (x:=.hours x0) fun hs=>tj hs x0
 ·cases rC (l:=ns) hl;exact gS (x:=.where_) fun hs=>wg hs
 ·cases rC (l:=ns) hl;exact gS (x:=.ready) fun hs=>um hs
 ·cases rC (l:=ns) hl;exact gS (x:=.aboard) fun hs=>mv hs
 ·cases rC (l:=ns) hl;exact gS (x:=.missing) fun hs=>dh hs
 ·cases rC (l:=ns) hl;exact gS (x:=.search) fun hs=>km hs
 ·obtain⟨x0,rfl⟩:=vY (l:=ns) hl hn;exact gS (x:=.who x0) fun hs=>Fi hs x0
 ·obtain⟨x0,rfl⟩:=vY (l:=ns) hl hn;exact gS (x:=.party x0) fun hs=>yp hs x0
 ·cases rC (l:=ns) hl;exact gS (x:=.cabins) fun hs=>ni hs
 ·obtain⟨x0,rfl⟩:=vY (l:=ns) hl hn;exact gS (x:=.least x0) fun hs=>yk hs x0
 ·cases rC (l:=ns) hl;exact gS (x:=.short) fun hs=>vj hs
 ·obtain⟨x0,rfl⟩:=vY (l:=ns) hl hn;exact gS (x:=.stock x0) fun hs=>sv hs x0
 ·cases rC (l:=ns) hl;exact gS (x:=.water) fun hs=>sg hs
 ·cases rC (l:=ns) hl;exact gS (x:=.lasts) fun hs=>yq hs
 ·obtain⟨x0,rfl⟩:=vY (l:=ns) hl hn;exact gS (x:=.ahead x0) fun hs=>ud hs x0
 ·cases rC (l:=ns) hl;exact gS (x:=.sums) fun hs=>zq hs
 ·cases rC (l:=ns) hl;refine⟨.back,rfl,rfl,fun _=>rfl,fun {Y D V} hY hV hs=>?_⟩;have e:cX Y 30 []=DH Y V:=by
   unfold cX;rw[if_neg (by decide),hV];rfl
  rw[e];exact Do hY hs
 ·cases rC (l:=ns) hl;refine⟨.again,rfl,rfl,fun _=>rfl,fun {Y D V} hY hV hs=>?_⟩;have e:cX Y 31 []=yN Y V:=by
   unfold cX;rw[if_neg (by decide),hV];rfl
  rw[e];exact Ac hY hs
 ·cases rC (l:=ns) hl;refine⟨.state,rfl,rfl,fun _=>rfl,fun {Y D V} hY hV hs=>?_⟩;have e:cX Y 32 []=(Y,yD Y V):=by
   unfold cX;rw[if_neg (by decide),hV];rfl
  rw[e];exact Cq hY hs
theorem Ft(hY:pZ Y D){c:Int}{ns:List Int}(h0:0≤c)(h1:c≤32)(hl:ns.length=cQ c)(hn:∀x∈ns,0≤x):
  (Km443Neutral.step (some D) [c::ns]).2=(cX Y c ns).2∧YRel (cX Y c ns).1 (Km443Neutral.step (some D) [c::ns]).1:=by
 obtain⟨V,hV,hs⟩:=hY.now;obtain⟨x,e1,_,_,h⟩:=u7 h0 h1 hl hn;rw[Di e1];exact⟨(h hY hV hs).1.symm,(h hY hV hs).2⟩
theorem zx{c:Int}{ns:List Int}(h0:0≤c)(h1:c≤32)(hl:ns.length=cQ c)(hn:∀x∈ns,0≤x)(hne:(Km443Neutral.step none [c::ns]).2.isEmpty=false):
  c=0∧(Km443Neutral.step none [c::ns]).2=(cX ⟨none,[],[]⟩ c ns).2∧YRel (cX ⟨none,[],[]⟩ c ns).1 (Km443Neutral.step none [c::ns]).1:=by
 by_cases hc:c=0
 ·subst hc;obtain⟨x0,x1,x2,x3,x4,x5,x6,x7,rfl⟩:=list8 (l:=ns) hl hn;refine⟨rfl,?_⟩
  have es:Km443Neutral.step none [(0::[((x0:Nat):Int),((x1:Nat):Int),((x2:Nat):Int),((x3:Nat):Int),((x4:Nat):Int),((x5:Nat):Int),((x6:Nat):Int),((x7:Nat):Int)])]=(if (told (act (fresh 1 0 1 1 1 1 1 1) (.start x0 x1 x2 x3 x4 x5 x6 x7)).2).headD 0 < 0 then none else some (act (fresh 1 0 1 1 1 1 1 1) (.start x0 x1 x2 x3 x4 x5 x6 x7)).1,told (act (fresh 1 0 1 1 1 1 1 1) (.start x0 x1 x2 x3 x4 x5 x6 x7)).2):=rfl
  rw[es];show _=(qJ ⟨none,[],[]⟩ x0 x1 x2 x3 x4 x5 x6 x7).2∧YRel (qJ ⟨none,[],[]⟩ x0 x1 x2 x3 x4 x5 x6 x7).1 _
  rcases V0 (fresh 1 0 1 1 1 1 1 1) ⟨none,[],[]⟩ x0 x1 x2 x3 x4 x5 x6 x7 with⟨_,e1,e2⟩ |⟨e1,e2,e3⟩
  ·rw[e1,e2];exact⟨rfl,rfl⟩
  ·rw[e1,e2];exact⟨rfl,e3⟩
 ·obtain⟨x,e1,_,e2,_⟩:=u7 h0 h1 hl hn;unfold Km443Neutral.step at hne;rw[e1] at hne;simp[e2 hc] at hne
theorem Dr{c:Int}{ns:List Int}(h0:0≤c)(h1:c≤32)(hl:ns.length=cQ c)(hn:∀x∈ns,0≤x):PyKm443.whole [c::ns]=[c::ns]:=(u7 h0 h1 hl hn).choose_spec.2.1
theorem Ei{p:Int}(h0:0≤p)(h1:p≤32):PyKm443.shape p=some (cQ p,0):=by
 rcases Ai h0 h1 with rfl |rfl |rfl |rfl |rfl |rfl |rfl |rfl |rfl |rfl |rfl |rfl |rfl |rfl |rfl |rfl |rfl |rfl |rfl |rfl |rfl |rfl |rfl |rfl |rfl |rfl |rfl |rfl |rfl |rfl |rfl |rfl |rfl <;> rfl
theorem Bz{p:Int}(h:¬(0≤p∧p≤32)):PyKm443.shape p=none:=by
 unfold PyKm443.shape;rw[if_neg (show ¬p=0 by omega)];rw[if_neg (show ¬p=1 by omega)];rw[if_neg (show ¬p=2 by omega)];rw[if_neg (show ¬p=3 by omega)];rw[if_neg (show ¬p=4 by omega)];rw[if_neg (show ¬p=5 by omega)];rw[if_neg (show ¬p=6 by omega)];rw[if_neg (show ¬p=7 by omega)];rw[if_neg (show ¬p=8 by omega)];rw[if_neg (show ¬p=9 by omega)];rw[if_neg (show ¬p=10 by omega)];rw[if_neg (show ¬p=11 by omega)];rw[if_neg (show ¬p=12 by omega)];rw[if_neg (show ¬p=13 by omega)];rw[if_neg (show ¬p=14 by omega)];rw[if_neg (show ¬p=15 by omega)];rw[if_neg (show ¬p=16 by omega)];rw[if_neg (show ¬p=17 by omega)];rw[if_neg (show ¬p=18 by omega)];rw[if_neg (show ¬p=19 by omega)];rw[if_neg (show ¬p=20 by omega)];rw[if_neg (show ¬p=21 by omega)];rw[if_neg (show ¬p=22 by omega)];rw[if_neg (show ¬p=23 by omega)];rw[if_neg (show ¬p=24 by omega)];rw[if_neg (show ¬p=25 by omega)];rw[if_neg (show ¬p=26 by omega)];rw[if_neg (show ¬p=27 by omega)];rw[if_neg (show ¬p=28 by omega)];rw[if_neg (show ¬p=29 by omega)];rw[if_neg (show ¬p=30 by omega)];rw[if_neg (show ¬p=31 by omega)];rw[if_neg (show ¬p=32 by omega)]
theorem yw{f:Nat}{p:Int}{r:List Int}{raw:List (List (List Int))}(h:PyFlat.calls PyKm443.shape f (p::r)=some raw):
  ∃g cs,f=g+1∧0≤p∧p≤32∧cQ p≤r.length∧PyFlat.calls PyKm443.shape g (r.drop (cQ p))=some cs∧raw=[p::r.take (cQ p)]::cs:=by
 cases f with
 |zero=>cases h
 |succ g=>
  by_cases hp:0≤p∧p≤32
  ·have e:PyFlat.calls PyKm443.shape (g+1) (p::r)=match PyFlat.call PyKm443.shape (p::r) with
    |none=>none
    |some (c,t)=>match PyFlat.calls PyKm443.shape g t with
     |none=>none
     |some cs=>some (c::cs):=rfl
   have e1:PyFlat.call PyKm443.shape (p::r)=if r.length < cQ p then none else some ([p::r.take (cQ p)],r.drop (cQ p)):=by
    show(match PyKm443.shape p with
     |none=>none
     |some (n,k)=>if r.length < n then none else match PyFlat.rows k (r.drop n) with
      |none=>none
      |some (xs,t)=>some ((p::r.take n)::xs,t))=_
    rw[Ei hp.1 hp.2];rfl
   rw[e,e1] at h
   by_cases hl:r.length < cQ p
   ·rw[if_pos hl] at h;cases h
   ·rw[if_neg hl] at h;simp only[] at h
    cases hc:PyFlat.calls PyKm443.shape g (r.drop (cQ p)) with
    |none=>rw[hc] at h;cases h
    |some cs=>
     rw[hc] at h;exact⟨g,cs,rfl,hp.1,hp.2,by omega,hc,(Option.some.inj h).symm⟩
  ·have e:PyFlat.calls PyKm443.shape (g+1) (p::r)=none:=by
    show(match (match PyKm443.shape p with
     |none=>none
     |some (n,k)=>if r.length < n then none else match PyFlat.rows k (r.drop n) with
      |none=>none
      |some (xs,t)=>some ((p::r.take n)::xs,t)) with
     |none=>none
     |some (c,t)=>match PyFlat.calls PyKm443.shape g t with
      |none=>none
      |some cs=>some (c::cs))=none
    rw[Bz hp]
   rw[e] at h;cases h
end
end CS
namespace L2
open PySem PySem.Spec PyProof.Rows
abbrev Key:=Sum Int Str
def keyIs:Key→Value→Bool
 |.inl k,v=>Value.isInt k v
 |.inr x,v=>Value.isStrOf x v
def keyH(w:World):Key→Int
 |.inl k=>hashInt k
 |.inr x=>hashStr w x
theorem jY:∀{k:Key} {v:Value},keyIs k v=true→(∃i t,k=Sum.inl i∧v=Value.int i t)∨(∃x t,k=Sum.inr x∧v=Value.str x t)
 |.inl i,v,h=>by
  obtain⟨t,e⟩:=Value.isInt_shape (k:=i) (v:=v) h;exact .inl ⟨i,t,rfl,e⟩
 |.inr x,v,h=>by
  obtain⟨t,e⟩:=Value.isStrOf_shape (x:=x) (v:=v) h;exact .inr ⟨x,t,rfl,e⟩
theorem key_ll(a b:Int):decide ((Sum.inl a:Key)=Sum.inl b)=(a==b):=by
 by_cases e:a=b
 ·subst e;simp
 ·have h:¬(Sum.inl a:Key)=Sum.inl b:=fun q=>e (Sum.inl.inj q);rw[decide_eq_false h];exact(beq_eq_false_iff_ne.mpr e).symm
theorem key_rr(a b:Str):decide ((Sum.inr a:Key)=Sum.inr b)=decide (a=b):=by
 by_cases e:a=b
 ·subst e;simp
 ·have h:¬(Sum.inr a:Key)=Sum.inr b:=fun q=>e (Sum.inr.inj q);rw[decide_eq_false h,decide_eq_false e]
theorem key_lr(a:Int)(b:Str):decide ((Sum.inl a:Key)=Sum.inr b)=false:=decide_eq_false (fun q=>nomatch q)
theorem key_rl(a:Str)(b:Int):decide ((Sum.inr a:Key)=Sum.inl b)=false:=decide_eq_false (fun q=>nomatch q)
def Hb(prog:Program)(w:World):PySem.KeyKind prog w Key where
 is:=keyIs
 hash:=keyH w
 inj:=fun v a b ha hb=>by
  rcases jY ha with⟨i,t,rfl,rfl⟩ |⟨x,t,rfl,rfl⟩
  ·rcases jY hb with⟨j,u,rfl,e⟩ |⟨y,u,rfl,e⟩
   ·injection e with e1 _;rw[e1]
   ·exact nomatch e
  ·rcases jY hb with⟨j,u,rfl,e⟩ |⟨y,u,rfl,e⟩
   ·exact nomatch e
   ·injection e with e1 _;rw[e1]
 byValue:=fun k v h=>by
  rcases jY h with⟨i,t,rfl,rfl⟩ |⟨x,t,rfl,rfl⟩ <;> rfl
 pyHash:=fun hv h=>by
  rcases jY hv with⟨i,t,rfl,rfl⟩ |⟨x,t,rfl,rfl⟩
  ·exact wpAny_pyHash_int h
  ·exact wpAny_pyHash_str h
 eqBool:=fun hu hv h=>by
  rcases jY hu with⟨i,t,rfl,rfl⟩ |⟨x,t,rfl,rfl⟩
  ·rcases jY hv with⟨j,u,rfl,rfl⟩ |⟨y,u,rfl,rfl⟩
   ·rw[key_ll] at h;exact wpAny_eqBool_int h
   ·rw[key_lr] at h;exact SeqAt.EqAt.int_str i t y u _ _ _ _ h
  ·rcases jY hv with⟨j,u,rfl,rfl⟩ |⟨y,u,rfl,rfl⟩
   ·rw[key_rl] at h;exact SeqAt.EqAt.str_int x t j u _ _ _ _ h
   ·rw[key_rr] at h;exact wpAny_eqBool_str h
 «strs»:=fun k x t v h=>by
  rcases jY h with⟨i,u,rfl,e⟩ |⟨y,u,rfl,e⟩
  ·exact nomatch e
  ·injection e with e1 _
   subst e1;cases v <;> rfl
inductive V where
 |non |bl (b:Bool) |int (i:Int) |str (x:Str) |byt (b:Array UInt8) |flt (b:UInt64) |ref (a:Addr) |ty (n:String)
 deriving DecidableEq
def dZ:V→Value→Prop
 |.non,u=>u=Value.none
 |.bl b,u=>u=Value.bool b
 |.int i,u=>∃t,u=Value.int i t
 |.str x,u=>∃t,u=Value.str x t
 |.byt b,u=>∃t,u=Value.bytes b t
 |.flt b,u=>∃t,u=Value.float b t
 |.ref a,u=>u=Value.ref a
 |.ty n,u=>u=Value.type n
abbrev cR:List V→List Value→Prop:=Paired dZ
theorem cR.length{xs:List V}{us:List Value}(r:cR xs us):xs.length=us.length:=Paired.length r
theorem cR.get:∀{xs:List V} {us:List Value} {i:Nat} {x:V},cR xs us→xs[i]? =some x→∃u,us[i]? =some u∧dZ x u
 |_,_,_,_,.nil,e=>by simp at e
 |_,_,0,_,.cons r _,e=>by simp at e;subst e;exact⟨_,rfl,r⟩
 |_,_,i+1,x,.cons _ t,e=>by
  obtain⟨u,h1,h2⟩:=cR.get (i:=i) (x:=x) t (by simpa using e);exact⟨u,by simpa using h1,h2⟩
theorem cR.set{x:V}{u:Value}(r:dZ x u):∀{xs:List V} {us:List Value} (i:Nat),cR xs us→cR (xs.set i x) (us.set i u)
 |_,_,_,.nil=>.nil
 |_,_,0,.cons _ t=>.cons r t
 |_,_,i+1,.cons q t=>.cons q (cR.set r i t)
theorem cR.append:∀{xs ys:List V} {us ws:List Value},cR xs us→cR ys ws→cR (xs++ys) (us++ws)
 |_,_,_,_,.nil,s=>s
 |_,_,_,_,.cons r t,s=>.cons r (cR.append t s)
theorem cR.take:∀{xs:List V} {us:List Value} (n:Nat),cR xs us→cR (xs.take n) (us.take n)
 |_,_,0,_=>.nil
 |_,_,_+1,.nil=>.nil
 |_,_,n+1,.cons r t=>.cons r (cR.take n t)
theorem cR.drop:∀{xs:List V} {us:List Value} (n:Nat),cR xs us→cR (xs.drop n) (us.drop n)
 |_,_,0,r=>r
 |_,_,_+1,.nil=>.nil
 |_,_,n+1,.cons _ t=>cR.drop n t
def KL:Option V→Option Value→Prop
 |some v,some u=>dZ v u
 |none,none=>True
 |_,_=>False
def KV{κ:Type}:List (κ×V)→List (κ×Value)→Prop:=Paired fun(p:κ×V) (q:κ×Value)=>p.1=q.1∧dZ p.2 q.2
inductive HO where
 |lst (xs:List V)
 |tup (xs:List V)
 |dK (kvs:List (Key×V))
 |set (S:Int→Bool) (n:Nat)
 |ins (C dx:Addr) (fs:List (Str×V))
 |own (x:Addr)
 |xd (fs:List (Str×V))
 |met (f x:Addr)
 |rng (lo hi:Int)
 |frz (o:Obj) (u:HO)
 |tbl (ps:Array Value)
 |ext (φ:Heap→Prop)
abbrev Hp:=Addr→Option HO
def upd(H:Hp)(a:Addr)(o:HO):Hp:=fun b=>if b=a then some o else H b
theorem aH{H:Hp}{a:Addr}{o:HO}:upd H a o a=some o:=by unfold upd;rw[if_pos rfl]
theorem bA{H:Hp}{a b:Addr}{o:HO}(h:b≠a):upd H a o b=H b:=by unfold upd;rw[if_neg h]
theorem fV{H:Hp}{a b:Addr}{o u:HO}(h:H a=some o)(h':H b=some u)(d:o≠u):a≠b:=by
 intro e;subst e;rw[h] at h';exact d (Option.some.inj h')
theorem bN{H:Hp}{a b:Addr}{o:HO}(h:H a=some o)(h':H b=none):a≠b:=by
 intro e;subst e;rw[h] at h';cases h'
section
variable(P:Program)(w:World)
def iX(H:Hp)(h:Heap)(a:Addr):HO→Prop
 |.lst xs=>xs.length≤sizeLine∧∃(its:List Value) (n:Nat),cR xs its∧h.get? a=some { cls:=.type "list",data:=.seq its.toArray n }
 |.tup xs=>xs.length≤sizeLine∧∃its:List Value,cR xs its∧IsTup h a its.toArray
 |.dK kvs=>kvs.length≤sizeLine∧(a==sysModules)=false∧∃vs,KV kvs vs∧h.DictOf (Hb P w) a vs
 |.set S n=>h.SetOf (intKind P w) a S n
 |.ins C dx fs=>H dx=some (.own a)∧fs.length≤1000∧dx≠a∧h.get? a=some (PySem.W.instObj C dx)∧
   ∃mA,h.Ns1 dx mA∧(∀f,KL (fs.lookup f) (mA f))∧PySem.Within mA (fs.map (·.1))
 |.own _=>∃o,h.get? a=some o
 |.xd fs=>∃mA,h.Ns1 a mA∧∀f,KL (fs.lookup f) (mA f)
 |.rng lo hi=>∃t u v,h.get? a=some { cls:=.type "range",data:=.fields #[.int lo t,.int hi u,.int 1 v] }
 |.frz o u=>h.get? a=some o∧iX H h a u
 |.tbl ps=>h.get? a=some { cls:=.none,data:=.fields ps }
 |.met f x=>h.get? a=some (PySem.W.methodObj (.ref f) (.ref x))
 |.ext φ=>φ h∧(∃o,h.get? a=some o)∧∀h1 h2:Heap,φ h1→(∀o,h1.get? a=some o→h2.get? a=some o)→φ h2
def HOk(H:Hp)(h:Heap):Prop:=∀a o,H a=some o→iX P w H h a o
end
section
variable{P:Program}{w:World}{H H':Hp}{h h':Heap}{a:Addr}{o:HO}
theorem iX.lt(x:iX P w H h a o):a < h.objs.size:=by
 cases o with
 |lst xs=>obtain⟨_,_,_,_,e⟩:=x;exact Heap.lt_size e
 |tup xs=>obtain⟨_,_,_,p⟩:=x;exact p.lt
 |dK kvs=>obtain⟨_,_,_,_,o,_,_,e,_⟩:=x;exact Heap.lt_size e
 |set S n=>obtain⟨o,_,_,_,e,_⟩:=x;exact Heap.lt_size e
 |ins C dx fs=>obtain⟨_,_,_,e,_⟩:=x;exact Heap.lt_size e
 |own y=>obtain⟨_,e⟩:=x;exact Heap.lt_size e
 |xd fs=>obtain⟨_,⟨_,_,_,e,_⟩,_⟩:=x;exact Heap.lt_size e
 |rng lo hi=>obtain⟨_,_,_,e⟩:=x;exact Heap.lt_size e
 |frz ob u=>obtain⟨e,_⟩:=x;exact Heap.lt_size e
 |tbl ps=>exact Heap.lt_size (show h.get? a=some _ from x)
 |met f y=>exact Heap.lt_size (show h.get? a=some _ from x)
 |ext φ=>obtain⟨_,⟨_,e⟩,_⟩:=x;exact Heap.lt_size e
theorem iX.WP(x:iX P w H h a o)(k:∀b u,(b=a∨H b=some (.own a))→h.get? b=some u→h'.get? b=some u)
  (ho:∀b,H b=some (.own a)→H' b=some (.own a)) (ht:∀b xs,H b=some (.tup xs)→H' b=some (.tup xs)):iX P w H' h' a o:=by
 induction o with
 |lst xs=>obtain⟨z,its,n,r,e⟩:=x;exact⟨z,its,n,r,k _ _ (.inl rfl) e⟩
 |tup xs=>obtain⟨z,its,r,ob,e,c⟩:=x;exact⟨z,its,r,ob,k _ _ (.inl rfl) e,c⟩
 |dK kvs=>obtain⟨z,y,vs,r,ob,es,ep,e,c⟩:=x;exact⟨z,y,vs,r,ob,es,ep,k _ _ (.inl rfl) e,c⟩
 |set S n=>obtain⟨ob,es,ep,t,e,c⟩:=x;exact⟨ob,es,ep,t,k _ _ (.inl rfl) e,c⟩
 |ins C dx fs=>
  obtain⟨d,z,ne,e,mA,⟨od,es,ep,e2,c⟩,r⟩:=x;exact⟨ho _ d,z,ne,k _ _ (.inl rfl) e,mA,⟨od,es,ep,k _ _ (.inr d) e2,c⟩,r⟩
 |own y=>obtain⟨ob,e⟩:=x;exact⟨ob,k _ _ (.inl rfl) e⟩
 |xd fs=>obtain⟨mA,⟨od,es,ep,e,c⟩,r⟩:=x;exact⟨mA,⟨od,es,ep,k _ _ (.inl rfl) e,c⟩,r⟩
 |rng lo hi=>obtain⟨t,u,v,e⟩:=x;exact⟨t,u,v,k _ _ (.inl rfl) e⟩
 |frz ob u ih=>obtain⟨e,q⟩:=x;exact⟨k _ _ (.inl rfl) e,ih q⟩
 |tbl ps=>
  have e:h.get? a=some { cls:=.none,data:=.fields ps }:=x;show h'.get? a=some { cls:=.none,data:=.fields ps };exact k a _ (.inl rfl) e
 |met f y=>
  have e:h.get? a=some (PySem.W.methodObj (.ref f) (.ref y)):=x;show h'.get? a=some (PySem.W.methodObj (.ref f) (.ref y));exact k a _ (.inl rfl) e
 |ext φ=>obtain⟨p,⟨o,e⟩,st⟩:=x;exact⟨st _ _ p fun o q=>k _ _ (.inl rfl) q,⟨o,k _ _ (.inl rfl) e⟩,st⟩
theorem HOk.lt(x:HOk P w H h)(e:H a=some o):a < h.objs.size:=(x a o e).lt
theorem HOk.fresh(x:HOk P w H h)(e:h.objs.size≤a):H a=none:=by
 cases q:H a with
 |none=>rfl
 |some u=>exact absurd (Nat.lt_of_lt_of_le (x.lt q) e) (Nat.lt_irrefl _)
theorem HOk.fD(x:HOk P w H h)(k:∀b u,h.get? b=some u→h'.get? b=some u):HOk P w H h':=fun a o e=>
 (x a o e).WP (fun b u _ q=>k b u q) (fun _ q=>q) fun _ _ q=>q
theorem HOk.wN(x:HOk P w H h)(k:∀b u,h.get? b=some u→h'.get? b=some u)(hp:h.objs.size≤a)(new:iX P w (upd H a o) h' a o):HOk P w (upd H a o) h':=fun b u e=>by
 have hn:=x.fresh hp
 by_cases hb:b=a
 ·subst hb;rw[aH] at e;cases e;exact new
 ·rw[bA hb] at e;exact(x b u e).WP (fun c v _ q=>k c v q) (fun c q=>by rw[bA (bN q hn)];exact q) fun c xs q=>by rw[bA (bN q hn)];exact q
end
def Rd(H:Hp)(a:Addr)(u:HO):Prop:=H a=some u∨∃o,H a=some (.frz o u)
theorem Rd.ok{P:Program}{w:World}{H:Hp}{h:Heap}{a:Addr}{u:HO}(r:Rd H a u)(x:HOk P w H h):iX P w H h a u:=by
 rcases r with r |⟨o,r⟩
 ·exact x a u r
 ·obtain⟨_,q⟩:=x a _ r;exact q
def Mut:Option HO→Prop
 |some (.lst _)=>True
 |some (.dK _)=>True
 |some (.set _ _)=>True
 |some (.ins _ _ _)=>True
 |some (.ext _)=>True
 |_=>False
section
variable{P:Program}{w:World}{H:Hp}{h h':Heap}{x e:Addr}{o':HO}
theorem HOk.HH(ok:HOk P w H h)(mu:Mut (H x))(he:e=x∨H e=some (.own x))(k:∀b u,b≠e→h.get? b=some u→h'.get? b=some u)(heo:∃u,h'.get? e=some u)
  (new:iX P w (upd H x o') h' x o'):HOk P w (upd H x o') h':=fun b u q=>by
 have nown:∀c y,H c=some (.own y)→c≠x:=fun c y r z=>by subst z;rw[r] at mu;exact mu
 have ntup:∀c xs,H c=some (.tup xs)→c≠x:=fun c xs r z=>by subst z;rw[r] at mu;exact mu
 by_cases hb:b=x
 ·subst hb;rw[aH] at q;cases q;exact new
 ·rw[bA hb] at q
  by_cases hbe:b=e
  ·have q':H b=some (.own x):=by
    rcases he with z |z
    ·exact absurd (hbe.trans z) hb
    ·rw[hbe];exact z
   rw[q] at q';cases q';obtain⟨v,hv⟩:=heo;exact⟨v,by rw[hbe];exact hv⟩
  ·refine(ok b u q).WP (fun c v hc r=>k c v ?_ r) (fun c r=>by rw[bA (nown c b r)];exact r) fun c xs r=>by rw[bA (ntup c xs r)];exact r
   rcases hc with rfl |hc
   ·exact hbe
   ·rintro rfl
    rcases he with z |z
    ·exact nown c b hc z
    ·rw[hc] at z;cases z;exact hb rfl
end
structure Un(fs ex:List Addr)(H H':Hp)(h h':Heap):Prop where
 keep:∀b o,h.get? b=some o→H b=none→b∉fs→b∉ex→h'.get? b=some o
 sS:∀b o,h.get? b=some o→H b=none→b∈fs→b∉ex→∃sl,h'.get? b=some { o with slots:=sl }
 free:∀b o,h.get? b=some o→H b=none→b∉ex→H' b=none
 kH:∀b o,h.get? b=some o→b∉ex→∃o',h'.get? b=some o'
 OB:∀b xs,H b=some (.tup xs)→H' b=some (.tup xs)
 KE:∀b o u,H b=some (.frz o u)→H' b=some (.frz o u)
 SA:∀b ps,H b=some (.tbl ps)→∃more,H' b=some (.tbl (ps++more))
section
variable{fs fs' ex ex':List Addr}{H H1 H2:Hp}{h h1 h2 h':Heap}{a x e:Addr}{o:HO}
theorem Un.any(u:Un fs ex H H1 h h1){b:Addr}{ob:Obj}(q:h.get? b=some ob)(n:H b=none)(hx:b∉ex):∃sl,h1.get? b=some { ob with slots:=sl }:=by
 by_cases hb:b∈fs
 ·exact u.sS b ob q n hb hx
 ·exact⟨ob.slots,u.keep b ob q n hb hx⟩
theorem Un.fD(k:∀b u,h.get? b=some u→h'.get? b=some u):Un fs ex H H h h':=
 ⟨fun b ob q _ _ _=>k b ob q,fun b ob q _ _ _=>⟨ob.slots,k b ob q⟩,fun _ _ _ n _=>n,fun b ob q _=>⟨ob,k b ob q⟩,fun _ _ q=>q,fun _ _ _ q=>q,fun _ ps q=>⟨#[],by rw[q];simp⟩⟩
theorem Un.refl:Un fs ex H H h h:=Un.fD fun _ _ q=>q
theorem Un.wN(k:∀b u,h.get? b=some u→h'.get? b=some u)(hp:h.objs.size≤a)(hn:H a=none):Un fs ex H (upd H a o) h h' where
 keep:=fun b u q _ _ _=>k b u q
 sS:=fun b u q _ _ _=>⟨u.slots,k b u q⟩
 free:=fun b u q n _=>by rw[bA (Nat.ne_of_lt (Nat.lt_of_lt_of_le (Heap.lt_size q) hp))];exact n
 kH:=fun b u q _=>⟨u,k b u q⟩
 OB:=fun b xs q=>by rw[bA (bN q hn)];exact q
 KE:=fun b u xs q=>by rw[bA (bN q hn)];exact q
 SA:=fun b ps q=>⟨#[],by rw[bA (bN q hn),q];simp⟩
theorem Un.HH(mu:Mut (H x))(he:e=x∨H e=some (.own x))(k:∀b u,b≠e→h.get? b=some u→h'.get? b=some u)(heo:∃u,h'.get? e=some u):Un fs ex H (upd H x o) h h':=by
 have hx:∀b,H b=none→b≠x:=fun b n z=>by subst z;rw[n] at mu;exact mu
 have hb:∀b,H b=none→b≠e:=fun b n z=>by
  subst z
  rcases he with r |r
  ·exact hx b n r
  ·rw[n] at r;cases r
 have hm:∀b u,H b=some u→¬Mut (some u)→b≠x:=fun b u q nm z=>by subst z;rw[q] at mu;exact nm mu
 refine⟨fun b u q n _ _=>k b u (hb b n) q,fun b u q n _ _=>⟨u.slots,k b u (hb b n) q⟩,fun b u q n _=>by rw[bA (hx b n)];exact n,fun b u q _=>?_,
  fun b xs q=>by rw[bA (hm b _ q fun z=>z)];exact q,fun b u xs q=>by rw[bA (hm b _ q fun z=>z)];exact q,fun b ps q=>⟨#[],by rw[bA (hm b _ q fun z=>z),q];simp⟩⟩
 by_cases hbe:b=e
 ·subst hbe;exact heo
 ·exact⟨u,k b u hbe q⟩
end
def trk(h:Heap)(H:Hp):List Addr:=(List.range h.objs.size).filter fun a=>(H a).isSome
def QO(h:Heap)(H:Hp):Heap:=PySem.W.hideAll h (trk h H)
theorem zp(h:Heap)(H:Hp):(QO h H).objs.size=h.objs.size:=PySem.W.hideAll_size _ _
theorem Dv{h:Heap}{H:Hp}{b:Addr}{o:Obj}(e:h.get? b=some o)(n:H b=none):(QO h H).get? b=some o:=
 PySem.W.hideAll_get _ e fun hm=>by
  have q:(H b).isSome=true:=(List.mem_filter.mp hm).2;rw[n] at q;simp at q
theorem Gi{h:Heap}{H:Hp}{b:Addr}{o:Obj}(e:(QO h H).get? b=some o):h.get? b=some o∧H b=none:=by
 have e':h.get? b=some o:=PySem.W.of_hideAll (trk h H) e;refine⟨e',?_⟩
 cases q:H b with
 |none=>rfl
 |some x=>
  have hm:b∈trk h H:=List.mem_filter.mpr ⟨List.mem_range.mpr (Heap.lt_size e'),by simp[q]⟩;have z:(QO h H).get? b=none:=PySem.W.hideAll_none (trk h H) hm;rw[z] at e;cases e
structure Mod(K:PySem.W.Frag)(mg:Str→Option Value)(aT:Heap):Prop where
 kin:K.In aT
 WJ:aT.Ns mainGlobals mg
 blt:∃mb,aT.Ns builtinsNs mb∧∀x:Str,x≠"__name__"→mb x=bootBuiltins x
 nolimit:aT.NoLimit
structure Cx where
 prog:Program
 w:World
 K:PySem.W.Frag
 mg:Str→Option Value
 aT:Heap
 A:Around
 N:List Str
 s_0:Shared
 H_0:Hp
 env:Env
 bF:List Env
 mG:List Env
 ex:List Addr
 fn:Str→Bool
 uM:Bool
 pn:List (Addr×Obj)
 xe:Value→Shared→Prop
def frs(l:List Env):List Addr:=l.filterMap (·.frame)
abbrev Cx.fs(X:Cx):List Addr:=frs X.bF
def Vis(sc:Scope)(x:Str):Prop:=sc.names.lookup x=some .local∨sc.names.lookup x=some .cell∨sc.names.lookup x=some .free
def Loc(sc:Scope)(x:Str):Prop:=sc.names.lookup x=some .local∨sc.names.lookup x=some .cell
def Look(env:Env)(h:Heap)(m:Str→Option Value)(x:Str)(u:Value):Prop:=
 (env.kindOf x=some .local∧m x=some u)∨((env.kindOf x=some .cell∨env.kindOf x=some .free)∧∃c,env.cells.lookup x=some c∧h.IsCell c (some u))
structure Cx.Ok(X:Cx):Prop where
 mod:Mod X.K X.mg X.aT
 kind:X.env.scope.kind=.function
 WJ:X.env.globals=mainGlobals
 blt:X.env.builtins=builtinsNs
 above:X.s_0.heap.objs.size≤X.env.locals
 inj:∀x y c,X.env.cells.lookup x=some c→X.env.cells.lookup y=some c→x=y
 has:∀x,(X.env.kindOf x=some .cell∨X.env.kindOf x=some .free)→∃c,X.env.cells.lookup x=some c
 cab:∀x c,X.fn x=true→X.env.cells.lookup x=some c→X.s_0.heap.objs.size≤c
 hd:X.uM=true→X.A.handled=none
 frames:X.A.frames=some X.mG
 stk:X.mG=X.bF∨(X.mG=X.env::X.bF∧X.env.frame=some X.env.locals)
 exf:∀b∈X.ex,b≠X.env.locals∧∀x c,X.env.cells.lookup x=some c→c≠b
 bs:∀b o,X.aT.get? b=some o→X.s_0.heap.get? b=some o∧X.H_0 b=none
 bsz:X.aT.objs.size≤X.s_0.heap.objs.size
 noex:∀b o,X.aT.get? b=some o→b∉X.ex
 exfs:∀b∈X.ex,b∉X.fs
 AI:X.s_0.heap.FunFrames X.aT X.bF
 frf:∀b∈X.fs,X.H_0 b=none
structure Inv(X:Cx)(pins:List (Addr×Obj))(σ:List (Option V))(H:Hp)(s:Shared):Prop where
 ok:X.Ok
 os:s.os=X.s_0.os
 lR:AllBare s.gens
 aT:Un X.fs X.ex X.H_0 H X.s_0.heap s.heap
 loc:∃m,s.heap.Ns X.env.locals m∧∀(i:Nat) (x:Str) (v:V),X.N[i]? =some x→σ[i]? =some (some v)→Vis X.env.scope x→∃u,dZ v u∧Look X.env s.heap m x u
 cell:∀x c,X.env.cells.lookup x=some c→∃v,s.heap.IsCell c v
 free:H X.env.locals=none
 tI:∀x c,X.env.cells.lookup x=some c→H c=none
 pin:∀p∈X.pn++pins,s.heap.get? p.1=some p.2∧H p.1=none∧p.1≠X.env.locals∧p.1∉X.fs∧∀v,p.2.data≠.cell v
 hok:HOk X.prog X.w H s.heap
 len:σ.length=X.N.length
section
variable{X:Cx}{pins:List (Addr×Obj)}{σ:List (Option V)}{H H':Hp}{s:Shared}{h':Heap}
theorem Cx.Ok.nofr(ok:X.Ok){b:Addr}{o:Obj}(e:X.aT.get? b=some o):b∉X.fs:=fun hb=>by
 have:=(ok.AI.mem hb).1;rw[e] at this;cases this
theorem Inv.bs(I:Inv X pins σ H s):∀b o,X.aT.get? b=some o→s.heap.get? b=some o∧H b=none:=fun b o e=>
 ⟨I.aT.keep b o (I.ok.bs b o e).1 (I.ok.bs b o e).2 (I.ok.nofr e) (I.ok.noex b o e),I.aT.free b o (I.ok.bs b o e).1 (I.ok.bs b o e).2 (I.ok.noex b o e)⟩
theorem Inv.bk(I:Inv X pins σ H s):∀b o,X.aT.get? b=some o→s.heap.get? b=some o:=fun b o e=>(I.bs b o e).1
theorem Inv.mod(I:Inv X pins σ H s):Mod X.K X.mg X.aT:=I.ok.mod
theorem Inv.kIn(I:Inv X pins σ H s):X.K.In s.heap:=I.ok.mod.kin.keeps I.bk
theorem Inv.fr(I:Inv X pins σ H s):∃m,Fr X.aT X.env.locals s.heap m:=
 let ⟨m,hn,_⟩:=I.loc
 ⟨m,hn,I.bk,Nat.le_trans I.ok.bsz I.ok.above⟩
theorem Inv.lt(I:Inv X pins σ H s):X.env.locals < s.heap.objs.size:=let ⟨_,hn,_⟩:=I.loc;hn.lt
theorem Inv.sz(I:Inv X pins σ H s):X.s_0.heap.objs.size≤s.heap.objs.size:=Nat.le_trans I.ok.above (Nat.le_of_lt I.lt)
theorem Inv.nofs(I:Inv X pins σ H s){a:Addr}(h:s.heap.objs.size≤a):a∉X.fs:=fun hb=>by
 obtain⟨_,o,ho,_⟩:=I.ok.AI.mem hb;exact absurd (Nat.lt_of_lt_of_le (Heap.lt_size ho) (Nat.le_trans I.sz h)) (Nat.lt_irrefl _)
theorem Inv.cne(I:Inv X pins σ H s):∀x c,X.env.cells.lookup x=some c→c≠X.env.locals:=fun x c e z=>by
 obtain⟨v,o,ho,hd⟩:=I.cell x c e;obtain⟨m,⟨o',es,ep,ho',hd',_⟩,_⟩:=I.loc;rw[z,ho'] at ho;cases ho;rw[hd'] at hd;cases hd
theorem Inv.AI(I:Inv X pins σ H s):s.heap.FunFrames X.aT X.bF:=by
 have all:∀(l:List Env),(∀b∈frs l,b∈X.fs)→X.s_0.heap.FunFrames X.aT l→s.heap.FunFrames X.aT l:=by
  intro l
  induction l with
  |nil=>intro _ _;trivial
  |cons env r ih=>
   intro hs hl;obtain⟨hk,⟨L,o,hf,hn,ho,hd⟩,hr⟩:=hl;have hL:L∈X.fs:=hs L (by unfold frs;rw[List.filterMap_cons,hf];exact List.mem_cons_self);obtain⟨sl,e⟩:=I.aT.sS L o ho (I.ok.frf L hL) hL fun z=>I.ok.exfs L z hL;exact⟨hk,⟨L,_,hf,hn,e,hd⟩,ih (fun b hb=>hs b (by unfold frs;rw[List.filterMap_cons,hf];exact List.mem_cons_of_mem _ hb)) hr⟩
 exact all X.bF (fun _ hb=>hb) I.ok.AI
theorem Inv.mG(I:Inv X pins σ H s):s.heap.FunFrames X.aT X.mG:=by
 rcases I.ok.stk with e |⟨e,hf⟩
 ·rw[e];exact I.AI
 ·rw[e];obtain⟨m,hn,_⟩:=I.loc;refine .cons (by rw[I.ok.kind];decide) hf hn ?_ I.AI;exact Heap.get?_none_of_le (Nat.le_trans I.ok.bsz I.ok.above)
theorem Inv.ga(I:Inv X pins σ H s):∀b∈frs X.mG,b∈X.env.locals::X.fs:=fun b hb=>by
 rcases I.ok.stk with e |⟨e,hf⟩
 ·rw[e] at hb;exact List.mem_cons_of_mem _ hb
 ·rw[e] at hb;unfold frs at hb;rw[List.filterMap_cons,hf] at hb;exact hb
theorem Inv.rn(I:Inv X pins σ H s):∀b∈frs X.mG,H b=none:=fun b hb=>by
 rcases List.mem_cons.mp (I.ga b hb) with e |hb
 ·rw[e];exact I.free
 ·obtain⟨_,o,ho,_⟩:=I.ok.AI.mem hb;exact I.aT.free b o ho (I.ok.frf b hb) fun z=>I.ok.exfs b z hb
theorem Inv.step{g':Array GenState}{t':Nat}{d':Drawn}{ch:List Addr}(I:Inv X pins σ H s)
  (hch:∀b∈ch,(b∈X.ex∨X.s_0.heap.objs.size≤b)∧b≠X.env.locals∧(∀x c,X.env.cells.lookup x=some c→c≠b)∧∀p∈X.pn++pins,p.1≠b)
  (keep:∀b o,b≠X.env.locals→b∉X.fs→b∉ch→s.heap.get? b=some o→H b=none→h'.get? b=some o)
  (sS:∀b o,b≠X.env.locals→b∈X.fs→b∉ch→s.heap.get? b=some o→H b=none→∃sl,h'.get? b=some { o with slots:=sl }) (free:∀b o,b∉ch→s.heap.get? b=some o→H b=none→H' b=none)
  (kH:∀b o,b∉ch→s.heap.get? b=some o→∃o',h'.get? b=some o')
  (OB:∀b xs,H b=some (.tup xs)→H' b=some (.tup xs)) (KE:∀b o u,H b=some (.frz o u)→H' b=some (.frz o u)) (SA:∀b ps,H b=some (.tbl ps)→∃more,H' b=some (.tbl (ps++more)))
  (ns:∀m,s.heap.Ns X.env.locals m→h'.Ns X.env.locals m) (hok:HOk X.prog X.w H' h') (hg:AllBare g'):
  Inv X pins σ H' { s with heap:=h',gens:=g',drawn:=d',toks:=t' }:=by
 have neL:∀b o,X.s_0.heap.get? b=some o→b≠X.env.locals:=fun b o e=>Nat.ne_of_lt (Nat.lt_of_lt_of_le (Heap.lt_size e) I.ok.above);have neC:∀b o,X.s_0.heap.get? b=some o→b∉X.ex→b∉ch:=fun b o e hx hb=>by
  rcases(hch b hb).1 with z |z
  ·exact hx z
  ·exact absurd (Nat.lt_of_lt_of_le (Heap.lt_size e) z) (Nat.lt_irrefl _)
 have cellK:∀x c,X.env.cells.lookup x=some c→∀v,s.heap.IsCell c v→h'.IsCell c v:=fun x c e v ⟨o,ho,hd⟩=>by
  have nch:c∉ch:=fun z=>(hch c z).2.2.1 x c e rfl
  by_cases hc:c∈X.fs
  ·obtain⟨sl,q⟩:=sS c o (I.cne x c e) hc nch ho (I.tI x c e);exact⟨_,q,hd⟩
  ·exact⟨o,keep c o (I.cne x c e) hc nch ho (I.tI x c e),hd⟩
 refine⟨I.ok,I.os,hg,⟨fun b o e n hb hx=>?_,fun b o e n hb hx=>?_,fun b o e n hx=>?_,fun b o e hx=>?_,fun b xs e=>OB b xs (I.aT.OB b xs e),fun b o xs e=>KE b o xs (I.aT.KE b o xs e),fun b ps e=>?_⟩,?_,fun x c e=>?_,?_,fun x c e=>?_,fun p hp=>?_,hok,I.len⟩
 ·exact keep b o (neL b o e) hb (neC b o e hx) (I.aT.keep b o e n hb hx) (I.aT.free b o e n hx)
 ·obtain⟨sl,e1⟩:=I.aT.sS b o e n hb hx;obtain⟨sl',e2⟩:=sS b _ (neL b o e) hb (neC b o e hx) e1 (I.aT.free b o e n hx);exact⟨sl',e2⟩
 ·obtain⟨o',e1⟩:=I.aT.kH b o e hx;exact free b o' (neC b o e hx) e1 (I.aT.free b o e n hx)
 ·obtain⟨o',e1⟩:=I.aT.kH b o e hx;exact kH b o' (neC b o e hx) e1
 ·obtain⟨m1,e1⟩:=I.aT.SA b ps e;obtain⟨m2,e2⟩:=SA b _ e1;exact⟨m1++m2,by rw[e2,Array.append_assoc]⟩
 ·obtain⟨m,hn,hl⟩:=I.loc;refine⟨m,ns m hn,fun i x v e1 e2 e3=>?_⟩;obtain⟨u,r,l⟩:=hl i x v e1 e2 e3;refine⟨u,r,?_⟩
  rcases l with l |⟨k,c,e,z⟩
  ·exact .inl l
  ·exact .inr ⟨k,c,e,cellK x c e _ z⟩
 ·obtain⟨v,z⟩:=I.cell x c e;exact⟨v,cellK x c e v z⟩
 ·obtain⟨m,⟨o,_,_,ho,_⟩,_⟩:=I.loc;exact free _ o (fun z=>(hch _ z).2.1 rfl) ho I.free
 ·obtain⟨v,o,ho,hd⟩:=I.cell x c e;exact free c o (fun z=>(hch c z).2.2.1 x c e rfl) ho (I.tI x c e)
 ·obtain⟨e,n,ne,nf,d⟩:=I.pin p hp;have nch:p.1∉ch:=fun z=>(hch p.1 z).2.2.2 p hp rfl;exact⟨keep p.1 p.2 ne nf nch e n,free p.1 p.2 nch e n,ne,nf,d⟩
theorem Inv.un{t':Nat}(I:Inv X pins σ H s)(u:Un X.fs [] H H' s.heap h')(hok:HOk X.prog X.w H' h'):Inv X pins σ H' { s with heap:=h',toks:=t' }:=by
 obtain⟨m,⟨o,es,ep,ho,r⟩,_⟩:=id I.loc;obtain⟨sl,hL⟩:=u.any ho I.free (by simp)
 exact I.step (g':=s.gens) (d':=s.drawn) (ch:=[]) (fun _ z=>nomatch z) (fun b o _ hb _ e n=>u.keep b o e n hb (by simp)) (fun b o _ hb _ e n=>u.sS b o e n hb (by simp)) (fun b o _ e n=>u.free b o e n (by simp)) (fun b o _ e=>u.kH b o e (by simp)) u.OB u.KE u.SA (fun m' hm=>by
  obtain⟨o',es',ep',ho',r'⟩:=hm;rw[ho] at ho';cases ho';exact⟨_,es',ep',hL,r'⟩) hok I.lR
theorem Inv.call{g':Array GenState}{t':Nat}{d':Drawn}{ch:List Addr}(I:Inv X pins σ H s)(u:Un (frs X.mG) ch H H' s.heap h')(hok:HOk X.prog X.w H' h')(hg:AllBare g')
  (hch:∀b∈ch,(b∈X.ex∨X.s_0.heap.objs.size≤b)∧b≠X.env.locals∧(∀x c,X.env.cells.lookup x=some c→c≠b)∧∀p∈X.pn++pins,p.1≠b):
  Inv X pins σ H' { s with heap:=h',gens:=g',drawn:=d',toks:=t' }:=by
 obtain⟨m,⟨o,es,ep,ho,r⟩,_⟩:=id I.loc;obtain⟨sl,hL⟩:=u.any ho I.free fun z=>(hch _ z).2.1 rfl;exact I.step (ch:=ch) hch (fun b o hL hb hc e n=>u.keep b o e n (fun z=>(List.mem_cons.mp (I.ga b z)).elim hL hb) hc) (fun b o _ _ hc e n=>u.any e n hc) (fun b o hc e n=>u.free b o e n hc) (fun b o hc e=>u.kH b o e hc) u.OB u.KE u.SA (fun m' hm=>by
  obtain⟨o',es',ep',ho',r'⟩:=hm;rw[ho] at ho';cases ho';exact⟨_,es',ep',hL,r'⟩) hok hg
theorem Inv.vF{t':Nat}{it:Addr}(I:Inv X pins σ H s)(k:∀b o,b≠it→s.heap.get? b=some o→h'.get? b=some o)(hn:H it=none)(hL:it≠X.env.locals)
  (h1:it∈X.ex∨X.s_0.heap.objs.size≤it) (h2:∀x c,X.env.cells.lookup x=some c→c≠it) (h3:∀p∈X.pn++pins,p.1≠it):Inv X pins σ H { s with heap:=h',toks:=t' }:=by
 have nit:∀b u,H b=some u→b≠it:=fun b u e z=>by rw[z,hn] at e;cases e
 refine I.step (g':=s.gens) (d':=s.drawn) (ch:=[it]) (fun b hb=>?_) (fun b o _ _ hc e _=>k b o (fun z=>hc (by simp[z])) e) (fun b o _ _ hc e _=>⟨o.slots,k b o (fun z=>hc (by simp[z])) e⟩) (fun _ _ _ _ n=>n)
  (fun b o hc e=>⟨o,k b o (fun z=>hc (by simp[z])) e⟩) (fun _ _ e=>e) (fun _ _ _ e=>e) (fun b ps e=>⟨#[],by rw[e];simp⟩) (fun m hm=>?_) (fun b u e=>?_) I.lR
 ·have e:b=it:=by simpa using hb
  subst e;exact⟨h1,hL,h2,h3⟩
 ·obtain⟨o,es,ep,ho,r⟩:=hm;exact⟨o,es,ep,k _ o (Ne.symm hL) ho,r⟩
 ·refine(I.hok b u e).WP (fun c v hc q=>k c v ?_ q) (fun _ q=>q) fun _ _ q=>q
  rcases hc with z |z
  ·rw[z];exact nit b u e
  ·exact nit c _ z
theorem Inv.tok(I:Inv X pins σ H s)(t:Nat):Inv X pins σ H { s with toks:=t }:=I.un (h':=s.heap) (t':=t) Un.refl I.hok
theorem Inv.fD{t':Nat}(I:Inv X pins σ H s)(k:∀b u,s.heap.get? b=some u→h'.get? b=some u):Inv X pins σ H { s with heap:=h',toks:=t' }:=I.un (Un.fD k) (I.hok.fD k)
theorem Inv.wN{a:Addr}{o:HO}{t':Nat}(I:Inv X pins σ H s)(k:∀b u,s.heap.get? b=some u→h'.get? b=some u)(hp:s.heap.objs.size≤a)(new:iX X.prog X.w (upd H a o) h' a o):
  Inv X pins σ (upd H a o) { s with heap:=h',toks:=t' }:=I.un (Un.wN k hp (I.hok.fresh hp)) (I.hok.wN k hp new)
theorem Inv.HH{x e:Addr}{o:HO}{t':Nat}(I:Inv X pins σ H s)(mu:Mut (H x))(he:e=x∨H e=some (.own x))(k:∀b u,b≠e→s.heap.get? b=some u→h'.get? b=some u)(heo:∃u,h'.get? e=some u)
  (new:iX X.prog X.w (upd H x o) h' x o):Inv X pins σ (upd H x o) { s with heap:=h',toks:=t' }:=I.un (Un.HH mu he k heo) (I.hok.HH mu he k heo new)
theorem Inv.weak{σ':List (Option V)}(I:Inv X pins σ H s)(hl:σ'.length=σ.length)(w:∀(i:Nat) v,σ'[i]? =some (some v)→σ[i]? =some (some v)):Inv X pins σ' H s:=
 ⟨I.ok,I.os,I.lR,I.aT,let ⟨m,hn,hl'⟩:=I.loc;⟨m,hn,fun i x v e1 e2 e3=>hl' i x v e1 (w i v e2) e3⟩,I.cell,I.free,I.tI,I.pin,I.hok,hl.trans I.len⟩
theorem Inv.qj{pins':List (Addr×Obj)}(I:Inv X pins σ H s)(h:∀p∈pins',s.heap.get? p.1=some p.2∧H p.1=none∧p.1≠X.env.locals∧p.1∉X.fs∧∀v,p.2.data≠.cell v):Inv X pins' σ H s:=
 ⟨I.ok,I.os,I.lR,I.aT,I.loc,I.cell,I.free,I.tI,fun p hp=>(List.mem_append.mp hp).elim (fun z=>I.pin p (List.mem_append_left _ z)) (h p),I.hok,I.len⟩
theorem A3{N:List Str}(hN:N.Nodup){i j:Nat}{x:Str}(a:N[i]? =some x)(b:N[j]? =some x):i=j:=by
 obtain⟨h1,e1⟩:=List.getElem?_eq_some_iff.mp a;obtain⟨h2,e2⟩:=List.getElem?_eq_some_iff.mp b;exact(List.getElem_inj hN).mp (e1.trans e2.symm)
theorem U2{M:Model}{A:Around}{E:Value→Shared→Prop}{i:Nat}{x:Str}{v:V}{u:Value}{Q:Unit→Shared→Prop}(I:Inv X pins σ H s)(hN:X.N.Nodup)(hi:X.N[i]? =some x)(hx:Loc X.env.scope x)(r:dZ v u)
  (h:∀s',Inv X pins (σ.set i (some v)) H s'→(∃a,Heap.SameBut a s.heap s'.heap∧(a=X.env.locals∨X.env.cells.lookup x=some a))→Q () s') (hf:X.fn x=true∨X.env.scope.names.lookup x=some .local:=by first |exact .inl rfl |exact .inr rfl |assumption):wpAny M A (storeName X.env x u) Q E s:=by
 obtain⟨m,hn,hl⟩:=id I.loc;have hcls:(X.env.scope.kind==.class||(X.env.scope.kind==.module&&X.env.locals != X.env.globals))=false:=by rw[I.ok.kind];rfl
 have hiσ:i < σ.length:=by rw[I.len];exact(List.getElem?_eq_some_iff.mp hi).1
 have cne:=I.cne;have tracked:∀{a:Addr} {h':Heap},(∃o,s.heap.get? a=some o∧H a=none)→Heap.SameBut a s.heap h'→HOk X.prog X.w H h':=fun {a h'} ha hs b ob e=>by
  obtain⟨_,_,hfree⟩:=ha;refine(I.hok b ob e).WP (fun c w' hc q=>(hs.2 c ?_).trans q) (fun _ q=>q) fun _ _ q=>q;rintro rfl
  rcases hc with rfl |hc
  ·rw[hfree] at e;cases e
  ·rw[hfree] at hc;cases hc
 rcases hx with hk |hk
 ·refine wpAny_storeName_local hk hn (fun h' hn' hs=>?_) hcls;obtain⟨oL,_,_,hoL,_⟩:=id hn;refine h _ ⟨I.ok,I.os,I.lR,⟨fun b o e n hb hx=>?_,fun b o e n hb hx=>?_,I.aT.free,fun b o e hx=>?_,I.aT.OB,I.aT.KE,I.aT.SA⟩,⟨_,hn',fun j y v' e1 e2 e3=>?_⟩,fun y c e=>?_,I.free,I.tI,fun p hp=>?_,tracked ⟨oL,hoL,I.free⟩ hs,by simpa using I.len⟩ ⟨_,hs,.inl rfl⟩
  ·exact(hs.2 b (Nat.ne_of_lt (Nat.lt_of_lt_of_le (Heap.lt_size e) I.ok.above))).trans (I.aT.keep b o e n hb hx)
  ·obtain⟨sl,e1⟩:=I.aT.sS b o e n hb hx;exact⟨sl,(hs.2 b (Nat.ne_of_lt (Nat.lt_of_lt_of_le (Heap.lt_size e) I.ok.above))).trans e1⟩
  ·obtain⟨o',e1⟩:=I.aT.kH b o e hx;exact⟨o',(hs.2 b (Nat.ne_of_lt (Nat.lt_of_lt_of_le (Heap.lt_size e) I.ok.above))).trans e1⟩
  ·by_cases hj:j=i
   ·subst hj;rw[hi] at e1;cases e1;rw[List.getElem?_set_self hiσ] at e2;cases e2;exact⟨u,r,.inl ⟨hk,by simp⟩⟩
   ·rw[List.getElem?_set_ne (Ne.symm hj)] at e2;obtain⟨u',r',q⟩:=hl j y v' e1 e2 e3;refine⟨u',r',?_⟩
    rcases q with⟨k,e⟩ |⟨k,c,e,z⟩
    ·refine .inl ⟨k,?_⟩;have :y≠x:=fun e=>hj (A3 hN e1 (e▸hi));simp[this,e]
    ·exact .inr ⟨k,c,e,z.sameBut hs (cne y c e)⟩
  ·obtain⟨w',z⟩:=I.cell y c e;exact⟨w',z.sameBut hs (cne y c e)⟩
  ·obtain⟨e,n,ne,nf,d⟩:=I.pin p hp;exact⟨(hs.2 p.1 ne).trans e,n,ne,nf,d⟩
 ·have hfn:X.fn x=true:=by
   rcases hf with z |z
   ·exact z
   ·rw[z] at hk;cases hk
  obtain⟨c,hc⟩:=I.ok.has x (.inl hk);obtain⟨w',z⟩:=I.cell x c hc;refine wpAny_storeName_cell I.ok.kind hk hc z (fun h' hc' hs=>?_);obtain⟨oc,hoc,hocd⟩:=id z
  refine h { s with heap:=h' } ⟨I.ok,I.os,I.lR,⟨fun b o e n hb hx=>?_,fun b o e n hb hx=>?_,I.aT.free,fun b o e hx=>?_,I.aT.OB,I.aT.KE,I.aT.SA⟩,⟨m,hn.sameBut hs (Ne.symm (cne x c hc)),fun j y v' e1 e2 e3=>?_⟩,fun y c' e=>?_,I.free,I.tI,fun p hp=>?_,tracked ⟨oc,hoc,I.tI x c hc⟩ hs,by simpa using I.len⟩ ⟨c,hs,.inr hc⟩
  ·exact(hs.2 b (Nat.ne_of_lt (Nat.lt_of_lt_of_le (Heap.lt_size e) (I.ok.cab x c hfn hc)))).trans (I.aT.keep b o e n hb hx)
  ·obtain⟨sl,e1⟩:=I.aT.sS b o e n hb hx;exact⟨sl,(hs.2 b (Nat.ne_of_lt (Nat.lt_of_lt_of_le (Heap.lt_size e) (I.ok.cab x c hfn hc)))).trans e1⟩
  ·obtain⟨o',e1⟩:=I.aT.kH b o e hx;exact⟨o',(hs.2 b (Nat.ne_of_lt (Nat.lt_of_lt_of_le (Heap.lt_size e) (I.ok.cab x c hfn hc)))).trans e1⟩
  ·by_cases hj:j=i
   ·subst hj;rw[hi] at e1;cases e1;rw[List.getElem?_set_self hiσ] at e2;cases e2;exact⟨u,r,.inr ⟨.inl hk,c,hc,hc'⟩⟩
   ·rw[List.getElem?_set_ne (Ne.symm hj)] at e2;obtain⟨u',r',q⟩:=hl j y v' e1 e2 e3;refine⟨u',r',?_⟩
    rcases q with q |⟨k,c',e,z'⟩
    ·exact .inl q
    ·refine .inr ⟨k,c',e,z'.sameBut hs ?_⟩;rintro rfl;exact hj (A3 hN e1 (I.ok.inj _ _ _ e hc▸hi))
  ·by_cases hcc:c'=c
   ·subst hcc;exact⟨_,hc'⟩
   ·obtain⟨w2,z2⟩:=I.cell y c' e;exact⟨w2,z2.sameBut hs hcc⟩
  ·obtain⟨e,n,ne,nf,d⟩:=I.pin p hp;refine⟨(hs.2 p.1 ?_).trans e,n,ne,nf,d⟩;intro q;rw[q,hoc] at e;have q':oc=p.2:=Option.some.inj e;exact d w' (by rw[←q'];exact hocd)
theorem t6{M:Model}{A:Around}{E:Value→Shared→Prop}{i:Nat}{x:Str}{v:V}{u:Value}{Q:Unit→Shared→Prop}(I:Inv X pins σ H s)(hN:X.N.Nodup)(hi:X.N[i]? =some x)(hx:Loc X.env.scope x)(r:dZ v u)
  (h:∀s',Inv X pins (σ.set i (some v)) H s'→Q () s') (hf:X.fn x=true∨X.env.scope.names.lookup x=some .local:=by first |exact .inl rfl |exact .inr rfl |assumption):wpAny M A (storeName X.env x u) Q E s:=
 U2 I hN hi hx r (fun s' I' _=>h s' I') hf
theorem Inv.call'{s':Shared}{ch:List Addr}(I:Inv X pins σ H s)(ho:s'.os=s.os)(u:Un (frs X.mG) ch H H' s.heap s'.heap)(hok:HOk X.prog X.w H' s'.heap)(hg:AllBare s'.gens)
  (hch:∀b∈ch,(b∈X.ex∨X.s_0.heap.objs.size≤b)∧b≠X.env.locals∧(∀x c,X.env.cells.lookup x=some c→c≠b)∧∀p∈X.pn++pins,p.1≠b):Inv X pins σ H' s':=by
 obtain⟨h',g',d',t',o'⟩:=s';have e:o'=s.os:=ho;subst e;exact I.call (g':=g') (t':=t') (d':=d') u hok hg hch
end
abbrev XK:=Value→Option Addr→Hp→Prop
abbrev St:=List (Option V)
abbrev VK:=V→Hp→Prop
abbrev TE:=St→Hp→VK→Prop
abbrev TT:=St→Hp→(Bool→Hp→Prop)→Prop
abbrev TA:=St→Hp→(List V→Hp→Prop)→Prop
structure lB where
 nx:St→Hp→Prop
 rt:VK
 bk:St→Hp→Prop:=fun _ _=>False
 ct:St→Hp→Prop:=fun _ _=>False
abbrev TS:=lB→St→Hp→Prop
def EP(X:Cx)(pins:List (Addr×Obj))(σ:St)(Q:VK)(u:Value)(s':Shared):Prop:=∃v H',Inv X pins σ H' s'∧dZ v u∧Q v H'
def TP(X:Cx)(pins:List (Addr×Obj))(σ:St)(Q:Bool→Hp→Prop)(b:Bool)(s':Shared):Prop:=∃H',Inv X pins σ H' s'∧Q b H'
def AP(X:Cx)(pins:List (Addr×Obj))(σ:St)(Q:List V→Hp→Prop)(us:List Value)(s':Shared):Prop:=∃vs H',Inv X pins σ H' s'∧cR vs us∧Q vs H'
def SP(X:Cx)(pins:List (Addr×Obj))(D:lB)(f:Flow)(s':Shared):Prop:=
 match f with
 |.next=>∃σ' H',Inv X pins σ' H' s'∧D.nx σ' H'
 |.brk=>∃σ' H',Inv X pins σ' H' s'∧D.bk σ' H'
 |.cont=>∃σ' H',Inv X pins σ' H' s'∧D.ct σ' H'
 |.ret u=>∃v σ' H',Inv X pins σ' H' s'∧dZ v u∧D.rt v H'
def PE(X:Cx)(e:Expr)(t:TE):Prop:=
 ∀(pins:List (Addr×Obj)) (s:Shared) (σ:St) (H:Hp) (Q:VK),Inv X pins σ H s→t σ H Q→wpAny (model X.prog X.w) X.A (eval e X.env) (EP X pins σ Q) X.xe s
def PT(X:Cx)(e:Expr)(t:TT):Prop:=
 ∀(pins:List (Addr×Obj)) (s:Shared) (σ:St) (H:Hp) (Q:Bool→Hp→Prop),Inv X pins σ H s→t σ H Q→wpAny (model X.prog X.w) X.A (isTrue e X.env (eval e X.env)) (TP X pins σ Q) X.xe s
def PW(X:Cx)(e:Expr)(t:TT):Prop:=
 ∀(whole:Sem Value) (pins:List (Addr×Obj)) (s:Shared) (σ:St) (H:Hp) (Q:Bool→Hp→Prop),Inv X pins σ H s→t σ H Q→wpAny (model X.prog X.w) X.A (isTrue e X.env whole) (TP X pins σ Q) X.xe s
theorem PW.pt{X:Cx}{e:Expr}{t:TT}(h:PW X e t):PT X e t:=h _
def PA(X:Cx)(es:List Expr)(t:TA):Prop:=
 ∀(pos:Pos) (pins:List (Addr×Obj)) (s:Shared) (σ:St) (H:Hp) (Q:List V→Hp→Prop),Inv X pins σ H s→t σ H Q→wpAny (model X.prog X.w) X.A (spliced (backTo pos (starEach es X.env))) (AP X pins σ Q) X.xe s
def PS(X:Cx)(st:Stmt)(t:TS):Prop:=
 ∀(pins:List (Addr×Obj)) (s:Shared) (σ:St) (H:Hp) (D:lB),Inv X pins σ H s→t D σ H→wpAny (model X.prog X.w) X.A (exec st X.env) (SP X pins D) X.xe s
def PSs(X:Cx)(st:List Stmt)(t:TS):Prop:=
 ∀(pins:List (Addr×Obj)) (s:Shared) (σ:St) (H:Hp) (D:lB),Inv X pins σ H s→t D σ H→wpAny (model X.prog X.w) X.A (execs st X.env) (SP X pins D) X.xe s
theorem thn{α:Type}{t:Sem α}{Q Q':α→Shared→Prop}{M:Model}{A:Around}{E:Value→Shared→Prop}{s:Shared}(h:wpAny M A t Q E s)(hQ:∀a s,Q a s→Q' a s):wpAny M A t Q' E s:=wpAny_mono h hQ fun _ _ x=>x
section
variable{X:Cx}
theorem bin{a b:Expr}{ta tb:TE}(ha:PE X a ta)(hb:PE X b tb){pins:List (Addr×Obj)}{s:Shared}{σ:St}{H:Hp}{R:V→V→Hp→Prop}(I:Inv X pins σ H s)(h:ta σ H fun x H1=>tb σ H1 fun y H2=>R x y H2)
  {α:Type} {Q:α→Shared→Prop} {f:Value→Value→Sem α}
  (hf:∀v u s2 x y H2,Inv X pins σ H2 s2→dZ x v→dZ y u→R x y H2→wpAny (model X.prog X.w) X.A (f v u) Q X.xe s2):
  wpAny (model X.prog X.w) X.A (eval a X.env) (fun v s₁=>wpAny (model X.prog X.w) X.A (eval b X.env) (fun u s₂=>wpAny (model X.prog X.w) X.A (f v u) Q X.xe s₂) X.xe s₁) X.xe s:=by
 refine thn (ha pins s σ H _ I h) fun v s1 ⟨x,H1,I1,r1,q1⟩=>?_;refine thn (hb pins s1 σ H1 _ I1 q1) fun u s2 ⟨y,H2,I2,r2,q2⟩=>?_;exact hf v u s2 x y H2 I2 r1 r2 q2
def fZ(i:Nat):TE:=fun σ H Q=>∃v,σ[i]? =some (some v)∧Q v H
def tC(v:V):TE:=fun _ H Q=>Q v H
theorem pe_var{i:Nat}{x:Str}{pos:Pos}(hN:X.N[i]? =some x)(hv:Vis X.env.scope x)(hd:(x==("__debug__":Str))=false:=by decide)(hcd:(x==("__classdict__":Str))=false:=by decide):PE X (.Name x pos) (fZ i):=by
 intro pins s σ H Q I h;obtain⟨v,e,h⟩:=h;obtain⟨m,hn,hl⟩:=I.loc;obtain⟨u,r,l⟩:=hl i x v hN e hv;have fin:EP X pins σ Q u s:=⟨v,H,I,r,h⟩
 rcases l with⟨hk,hm⟩ |⟨hk,c,hc,hcell⟩
 ·exact wpAny_Name (wpAny_loadName_local I.ok.kind hk hn hm fin) hd
 ·rcases hk with hk |hk
  ·exact wpAny_Name (wpAny_loadName_cell I.ok.kind hk hc hcell fin) hd
  ·exact wpAny_Name (wpAny_loadName_free I.ok.kind hk hc hcell fin hcd) hd
theorem aQ{i j pos}:PE X (.Constant (.int i) j pos) (tC (.int i)):=fun _ _ _ H _ I h=>wpAny_Constant_int ⟨.int i,H,I.tok _,⟨_,rfl⟩,h⟩
theorem pe_bl{b j pos}:PE X (.Constant (.bool b) j pos) (tC (.bl b)):=fun _ _ _ H _ I h=>Constant_bool ⟨.bl b,H,I,rfl,h⟩
theorem pe_non{j pos}:PE X (.Constant .none j pos) (tC .non):=fun _ _ _ H _ I h=>Constant_none ⟨.non,H,I,rfl,h⟩
def Gl(X:Cx)(x:Str):Prop:=X.env.kindOf x=some .globalImplicit
theorem ZH{E:Value→Shared→Prop}{pins:List (Addr×Obj)}{s:Shared}{σ:St}{H:Hp}{x:Str}{u:Value}{pos:Pos}{Q:Value→Shared→Prop}(I:Inv X pins σ H s)(hg:Gl X x)(hm:X.mg x=some u)(h:Q u s)
  (hd:(x==("__debug__":Str))=false:=by decide):wpAny (model X.prog X.w) X.A (eval (.Name x pos) X.env) Q E s:=
 Calls.Name_function_global I.ok.kind hg (Calls.loadGlobal_global (by rw[I.ok.WJ];exact I.mod.WJ.keeps I.bk) hm h) hd
theorem US{E:Value→Shared→Prop}{pins:List (Addr×Obj)}{s:Shared}{σ:St}{H:Hp}{x:Str}{u:Value}{pos:Pos}{Q:Value→Shared→Prop}(I:Inv X pins σ H s)(hg:Gl X x)(hm:X.mg x=none)(hv:bootBuiltins x=some u)(h:Q u s)
  (hn:x≠"__name__":=by decide) (hd:(x==("__debug__":Str))=false:=by decide):wpAny (model X.prog X.w) X.A (eval (.Name x pos) X.env) Q E s:=by
 obtain⟨mb,h1,h2⟩:=I.mod.blt;exact Calls.Name_function_global I.ok.kind hg (Calls.loadGlobal_builtin (by rw[I.ok.WJ];exact I.mod.WJ.keeps I.bk) hm (by rw[I.ok.blt];exact h1.keeps I.bk) ((h2 x hn).trans hv) h) hd
theorem qh{x:Str}{v:V}{u:Value}{pos:Pos}(hg:Gl X x)(hm:X.mg x=some u)(r:dZ v u)(hd:(x==("__debug__":Str))=false:=by decide):PE X (.Name x pos) (tC v):=
 fun _ _ _ H _ I h=>ZH I hg hm ⟨v,H,I,r,h⟩ hd
variable{a b:Expr}{ta tb:TE}{pos:Pos}
def PC(X:Cx)(op:CmpOp)(a b:Expr)(t:TE):Prop:=
 ∀(pins:List (Addr×Obj)) (s:Shared) (σ:St) (H:Hp) (Q:VK),Inv X pins σ H s→t σ H Q→
  wpAny (model X.prog X.w) X.A (eval a X.env) (fun v s₁=>wpAny (model X.prog X.w) X.A (eval b X.env) (fun u s₂=>wpAny (model X.prog X.w) X.A (compareOp op v u) (EP X pins σ Q) X.xe s₂) X.xe s₁) X.xe s
def tB(t:TE):TT:=fun σ H Q=>t σ H fun x H1=>∃c,x=.bl c∧Q c H1
theorem pt_cmp{op:CmpOp}{t:TE}(h:PC X op a b t)(h1:behindInMarks op b=false:=by first |exact nobehind _ (by decide) (by decide) |rfl):PT X (.Compare a [op] [b] pos) (tB t):=by
 intro pins s σ H Q I hw;refine wpAny_isTrue_Compare1 (thn (h pins s σ H _ I hw) fun v s1 h1=>thn h1 fun u s2 h2=>thn h2 fun c s3 ⟨x,H1,I1,r1,q1⟩=>?_) h1;obtain⟨d,rfl,q⟩:=q1;cases r1;exact wpAny_truthy_bool ⟨H1,I1,q⟩
theorem dW{e:Expr}{t:TE}(h:PE X e t)(he:∀whole,isTrue e X.env whole=(do let v ←whole;standAt e.pos;holding [v] (truthy v)):=by intro _;rfl):PT X e (tB t):=by
 intro pins s σ H Q I hw;refine isTrue_plain (thn (h pins s σ H _ I hw) fun v s1 ⟨x,H1,I1,r1,q1⟩=>?_) (he _);obtain⟨d,rfl,q⟩:=q1;cases r1;exact wpAny_truthy_bool ⟨H1,I1,q⟩
variable{tA tB':TT}{rest:List Expr}
def tAnd(t u:TT):TT:=fun σ H Q=>t σ H fun c H1=>if c=true then u σ H1 Q else Q false H1
def tOr(t u:TT):TT:=fun σ H Q=>t σ H fun c H1=>if c=true then Q true H1 else u σ H1 Q
def tNot(t:TT):TT:=fun σ H Q=>t σ H fun c H1=>Q (!c) H1
theorem oF(ha:PT X a tA):PW X (.BoolOp .And [a] pos) tA:=by
 intro wh pins s σ H Q I h;refine isTrue_and (thn (ha pins s σ H Q I h) fun c s1 e=>?_)
 cases c with
 |true=>exact isTrue_and_nil e
 |false=>exact e
theorem rL(ha:PT X a tA):PW X (.BoolOp .Or [a] pos) tA:=by
 intro wh pins s σ H Q I h;refine isTrue_or (thn (ha pins s σ H Q I h) fun c s1 e=>?_)
 cases c with
 |false=>exact isTrue_or_nil e
 |true=>exact e
theorem oQ(ha:PT X a tA)(hb:PW X (.BoolOp .And (b::rest) pos) tB'):PW X (.BoolOp .And (a::b::rest) pos) (tAnd tA tB'):=by
 intro wh pins s σ H Q I h;refine isTrue_and (thn (ha pins s σ H _ I h) fun c s1 ⟨H1,I1,q1⟩=>?_)
 cases c with
 |true=>exact hb wh pins s1 σ H1 Q I1 q1
 |false=>exact⟨H1,I1,q1⟩
theorem mI(ha:PT X a tA)(hb:PW X (.BoolOp .Or (b::rest) pos) tB'):PW X (.BoolOp .Or (a::b::rest) pos) (tOr tA tB'):=by
 intro wh pins s σ H Q I h;refine isTrue_or (thn (ha pins s σ H _ I h) fun c s1 ⟨H1,I1,q1⟩=>?_)
 cases c with
 |true=>exact⟨H1,I1,q1⟩
 |false=>exact hb wh pins s1 σ H1 Q I1 q1
theorem rR(ha:PT X a tA):PT X (.UnaryOp .Not a pos) (tNot tA):=by
 intro pins s σ H Q I h;exact isTrue_not (ha pins s σ H (fun c H1=>Q (!c) H1) I h)
def yj(ta tb:TE):TE:=fun σ H Q=>ta σ H fun x H1=>∃c,x=.bl c∧if c=true then tb σ H1 Q else Q (.bl false) H1
def tOrV(ta tb:TE):TE:=fun σ H Q=>ta σ H fun x H1=>∃c,x=.bl c∧if c=true then Q (.bl true) H1 else tb σ H1 Q
def tNotV(ta:TE):TE:=fun σ H Q=>ta σ H fun x H1=>∃c,x=.bl c∧Q (.bl (!c)) H1
theorem zK{op}{t:TE}(h:PE X a t):PE X (.BoolOp op [a] pos) t:=fun pins s σ H Q I hw=>BoolOp_one (h pins s σ H Q I hw)
theorem yZ(ha:PE X a ta)(hb:PE X (.BoolOp .And (b::rest) pos) tb):PE X (.BoolOp .And (a::b::rest) pos) (yj ta tb):=by
 intro pins s σ H Q I h;refine BoolOp_and (thn (ha pins s σ H _ I h) fun v s1 ⟨x,H1,I1,r1,q1⟩=>?_);obtain⟨c,rfl,q1⟩:=q1;cases r1;refine wpAny_truthy_bool ?_
 cases c with
 |true=>exact hb pins s1 σ H1 Q I1 q1
 |false=>exact⟨.bl false,H1,I1,rfl,q1⟩
theorem pe_or(ha:PE X a ta)(hb:PE X (.BoolOp .Or (b::rest) pos) tb):PE X (.BoolOp .Or (a::b::rest) pos) (tOrV ta tb):=by
 intro pins s σ H Q I h;refine BoolOp_or (thn (ha pins s σ H _ I h) fun v s1 ⟨x,H1,I1,r1,q1⟩=>?_);obtain⟨c,rfl,q1⟩:=q1;cases r1;refine wpAny_truthy_bool ?_
 cases c with
 |false=>exact hb pins s1 σ H1 Q I1 q1
 |true=>exact⟨.bl true,H1,I1,rfl,q1⟩
theorem er(ha:PE X a ta):PE X (.UnaryOp .Not a pos) (tNotV ta):=by
 intro pins s σ H Q I h;refine UnaryOp_ (thn (ha pins s σ H _ I h) fun v s1 ⟨x,H1,I1,r1,q1⟩=>?_);obtain⟨c,rfl,q1⟩:=q1;cases r1;exact not_of (wpAny_truthy_bool ⟨.bl (!c),H1,I1,rfl,q1⟩)
def tIf(t:TT)(ta tb:TE):TE:=fun σ H Q=>t σ H fun c H1=>if c=true then ta σ H1 Q else tb σ H1 Q
theorem tO{c:Expr}(hc:PT X c tA)(ha:PE X a ta)(hb:PE X b tb):PE X (.IfExp c a b pos) (tIf tA ta tb):=by
 intro pins s σ H Q I h;refine wpAny_IfExp (thn (hc pins s σ H _ I h) fun d s1 ⟨H1,I1,q1⟩=>?_)
 cases d with
 |true=>exact ha pins s1 σ H1 Q I1 q1
 |false=>exact hb pins s1 σ H1 Q I1 q1
end
def SqL(K:PySem.W.Frag)(H:Hp)(a:Addr)(xs:List V):Prop:=
 Rd H a (.lst xs)∨
  ∃(o:Obj) (its:Array Value) (n:Nat),K.lookup a=some o∧o.cls=.type "list"∧o.dict=none∧o.data=.seq its n∧its.size≤sizeLine∧cR xs its.toList
def SqT(K:PySem.W.Frag)(H:Hp)(a:Addr)(xs:List V):Prop:=
 Rd H a (.tup xs)∨
  ∃(o:Obj) (its:Array Value) (n:Nat),K.lookup a=some o∧o.cls=.type "tuple"∧o.data=.seq its n∧its.size≤sizeLine∧cR xs its.toList
def absV:Value→Option V
 |.none=>some .non
 |.bool b=>some (.bl b)
 |.int i _=>some (.int i)
 |.str x _=>some (.str x)
 |.bytes b _=>some (.byt b)
 |.float b _=>some (.flt b)
 |.ref a=>some (.ref a)
 |.type n=>some (.ty n)
 |_=>none
theorem dZ.abs{x:V}{u:Value}(r:dZ x u):absV u=some x:=by
 cases x with
 |non=>cases r;rfl
 |bl _=>cases r;rfl
 |int _=>obtain⟨t,rfl⟩:=r;rfl
 |str _=>obtain⟨t,rfl⟩:=r;rfl
 |byt _=>obtain⟨t,rfl⟩:=r;rfl
 |flt _=>obtain⟨t,rfl⟩:=r;rfl
 |ref _=>cases r;rfl
 |ty _=>cases r;rfl
theorem dZ.inj{x y:V}{u:Value}(r:dZ x u)(q:dZ y u):x=y:=Option.some.inj (r.abs.symm.trans q.abs)
theorem cR.inj:∀{xs ys:List V} {us:List Value},cR xs us→cR ys us→xs=ys
 |_,_,_,.nil,.nil=>rfl
 |_,_,_,.cons r t,.cons r' t'=>by rw[r.inj r',cR.inj t t']
section
variable{X:Cx}{pins:List (Addr×Obj)}{σ:St}{H:Hp}{s:Shared}{a:Addr}{xs ys:List V}
theorem SqL.of{K:PySem.W.Frag}(h:H a=some (.lst xs)):SqL K H a xs:=.inl (.inl h)
theorem SqT.of{K:PySem.W.Frag}(h:H a=some (.tup xs)):SqT K H a xs:=.inl (.inl h)
theorem Inv.list(I:Inv X pins σ H s)(h:SqL X.K H a xs):∃its:List Value,cR xs its∧PlainL s.heap a its.toArray∧xs.length≤sizeLine:=by
 rcases h with h |⟨o,its,n,hk,hc,hd,hs,hz,r⟩
 ·obtain⟨z,its,n,r,e⟩:=h.ok I.hok;exact⟨its,r,⟨_,n,e,rfl,rfl,rfl⟩,z⟩
 ·refine⟨its.toList,r,⟨o,n,I.kIn a o hk,hc,hd,by simpa using hs⟩,?_⟩;have e:=r.length;simp only[Array.length_toList] at e;omega
theorem Inv.tuple(I:Inv X pins σ H s)(h:SqT X.K H a xs):∃its:List Value,cR xs its∧IsTup s.heap a its.toArray∧xs.length≤sizeLine:=by
 rcases h with h |⟨o,its,n,hk,hc,hs,hz,r⟩
 ·obtain⟨z,its,r,p⟩:=h.ok I.hok;exact⟨its,r,p,z⟩
 ·refine⟨its.toList,r,⟨o,I.kIn a o hk,hc,n,by simpa using hs⟩,?_⟩;have e:=r.length;simp only[Array.length_toList] at e;omega
theorem Inv.cv(I:Inv X pins σ H s)(h:SqL X.K H a xs)(h':SqL X.K H a ys):xs=ys:=by
 obtain⟨its,r,⟨o,n,e,_,_,d⟩,_⟩:=I.list h;obtain⟨its',r',⟨o',n',e',_,_,d'⟩,_⟩:=I.list h';rw[e] at e';cases e';rw[d] at d'
 injection d' with d1 _
 have :its=its':=by simpa using congrArg Array.toList d1
 subst this;exact r.inj r'
theorem Inv.Cl(I:Inv X pins σ H s)(h:SqT X.K H a xs)(h':SqT X.K H a ys):xs=ys:=by
 obtain⟨its,r,⟨o,e,_,n,d⟩,_⟩:=I.tuple h;obtain⟨its',r',⟨o',e',_,n',d'⟩,_⟩:=I.tuple h';rw[e] at e';cases e';rw[d] at d'
 injection d' with d1 _
 have :its=its':=by simpa using congrArg Array.toList d1
 subst this;exact r.inj r'
end
abbrev Cx.JJ(X:Cx)(E:Value→Shared→Prop):Cx:={ X with xe:=E }
abbrev Cx.nox(X:Cx):Cx:=X.JJ fun _ _=>False
theorem Cx.Ok.JJ{X:Cx}(ok:X.Ok)(E:Value→Shared→Prop):(X.JJ E).Ok:=
 ⟨ok.mod,ok.kind,ok.WJ,ok.blt,ok.above,ok.inj,ok.has,ok.cab,ok.hd,ok.frames,ok.stk,ok.exf,ok.bs,ok.bsz,ok.noex,ok.exfs,ok.AI,ok.frf⟩
theorem Cx.Ok.zA{X:Cx}{E:Value→Shared→Prop}(ok:(X.JJ E).Ok):X.Ok:=
 ⟨ok.mod,ok.kind,ok.WJ,ok.blt,ok.above,ok.inj,ok.has,ok.cab,ok.hd,ok.frames,ok.stk,ok.exf,ok.bs,ok.bsz,ok.noex,ok.exfs,ok.AI,ok.frf⟩
section
variable{X:Cx}{pins:List (Addr×Obj)}{σ:St}{H:Hp}{s:Shared}{E:Value→Shared→Prop}
theorem Inv.JJ(I:Inv X pins σ H s)(E:Value→Shared→Prop):Inv (X.JJ E) pins σ H s:=⟨I.ok.JJ E,I.os,I.lR,I.aT,I.loc,I.cell,I.free,I.tI,I.pin,I.hok,I.len⟩
theorem Inv.zA(I:Inv (X.JJ E) pins σ H s):Inv X pins σ H s:=⟨I.ok.zA,I.os,I.lR,I.aT,I.loc,I.cell,I.free,I.tI,I.pin,I.hok,I.len⟩
theorem SP.zA{D:lB}{f:Flow}{s':Shared}(h:SP (X.JJ E) pins D f s'):SP X pins D f s':=by
 cases f with
 |next=>obtain⟨σ',H',I,q⟩:=h;exact⟨σ',H',I.zA,q⟩
 |brk=>obtain⟨σ',H',I,q⟩:=h;exact⟨σ',H',I.zA,q⟩
 |cont=>obtain⟨σ',H',I,q⟩:=h;exact⟨σ',H',I.zA,q⟩
 |ret u=>obtain⟨v,σ',H',I,r,q⟩:=h;exact⟨v,σ',H',I.zA,r,q⟩
theorem PSs.nox{st:List Stmt}{t:TS}(h:PSs X.nox st t):PSs X st t:=fun pins s σ H D I hw=>
 wpAny_mono (h pins s σ H D (I.JJ _) hw) (fun _ _ q=>q.zA) fun _ _ z=>False.elim z
end
section
variable{X:Cx}{st:Stmt}{rest:List Stmt}{t u:TS}{e:Expr}{te:TE}{pos:Pos}
def bT:TS:=fun D σ H=>D.nx σ H
def tSeq(t u:TS):TS:=fun D σ H=>t { D with nx:=u D } σ H
theorem bG:PSs X [] bT:=fun _ _ σ H _ I h=>wpAny_execs_nil ⟨σ,H,I,h⟩
theorem aE(h1:PS X st t)(h2:PSs X rest u):PSs X (st::rest) (tSeq t u):=by
 intro pins s σ H D I h
 refine wpAny_execs_cons (thn (h1 pins s σ H { D with nx:=u D } I h) fun f s1 q=>?_)
 cases f with
 |next=>
  obtain⟨σ',H',I',q⟩:=q;exact h2 pins s1 σ' H' D I' q
 |ret v=>exact q
 |brk=>exact q
 |cont=>exact q
theorem aK(h1:PS X st t):PSs X [st] t:=by
 intro pins s σ H D I h;refine wpAny_execs_cons (thn (h1 pins s σ H D I h) fun f s1 q=>?_)
 cases f with
 |next=>exact wpAny_execs_nil q
 |ret v=>exact q
 |brk=>exact q
 |cont=>exact q
theorem Inv.quiet{pins:List (Addr×Obj)}{σ:St}{H:Hp}{s:Shared}(I:Inv X pins σ H s):interactive X.env=false:=by simp[interactive,I.ok.kind]
def BZ(te:TE):TS:=fun D σ H=>te σ H fun _ H1=>D.nx σ H1
theorem eQ(he:PE X e te)(hs:swapsWith e none pos.line X.env=pure false:=by rfl):PS X (.Expr e pos) (BZ te):=by
 intro pins s σ H D I h;exact wpAny_Expr_any (thn (he pins s σ H _ I h) fun v s1 ⟨x,H1,I1,r1,q1⟩=>⟨σ,H1,I1,q1⟩) I.quiet hs
def GF(te:TE):TS:=fun D σ H=>te σ H D.rt
theorem aN(he:PE X e te):PS X (.Return (some e) pos) (GF te):=by
 intro pins s σ H D I h;exact wpAny_Return_some (thn (he pins s σ H _ I h) fun v s1 ⟨x,H1,I1,r1,q1⟩=>⟨x,σ,H1,I1,r1,q1⟩)
def tIfS(c:TT)(t u:TS):TS:=fun D σ H=>c σ H fun b H1=>if b=true then t D σ H1 else u D σ H1
theorem bS{c:Expr}{a b:List Stmt}{tc:TT}(hc:PT X c tc)(ha:PSs X a t)(hb:PSs X b u):PS X (.If c a b pos) (tIfS tc t u):=by
 intro pins s σ H D I h;refine wpAny_If (thn (hc pins s σ H _ I h) fun d s1 ⟨H1,I1,q1⟩=>?_)
 cases d with
 |true=>exact ha pins s1 σ H1 D I1 q1
 |false=>exact hb pins s1 σ H1 D I1 q1
end
abbrev TG:=V→St→Hp→(St→Hp→Prop)→Prop
abbrev TGs:=List V→St→Hp→(St→Hp→Prop)→Prop
def PG(X:Cx)(target:Expr)(t:TG):Prop:=
 ∀(pins:List (Addr×Obj)) (s:Shared) (σ:St) (H:Hp) (v:V) (u:Value) (Q:St→Hp→Prop),Inv X pins σ H s→dZ v u→t v σ H Q→
  wpAny (model X.prog X.w) X.A (assign target X.env u) (fun _ s'=>∃σ' H',Inv X pins σ' H' s'∧Q σ' H') X.xe s
def PGs(X:Cx)(ts:List Expr)(t:TGs):Prop:=
 ∀(pins:List (Addr×Obj)) (s:Shared) (σ:St) (H:Hp) (vs:List V) (us:List Value) (Q:St→Hp→Prop),Inv X pins σ H s→cR vs us→t vs σ H Q→
  wpAny (model X.prog X.w) X.A (assignInOrder ((assignEach ts X.env).map (·.2)) us) (fun _ s'=>∃σ' H',Inv X pins σ' H' s'∧Q σ' H') X.xe s
abbrev TSet:=V→V→V→Hp→(Hp→Prop)→Prop
def PSet(X:Cx)(t:TSet):Prop:=
 ∀(pins:List (Addr×Obj)) (s:Shared) (σ:St) (H:Hp) (o i v:V) (ov iv u:Value) (Q:Hp→Prop),Inv X pins σ H s→dZ o ov→dZ i iv→dZ v u→t o i v H Q→
  wpAny (model X.prog X.w) X.A (setItem ov iv u) (fun _ s'=>∃H',Inv X pins σ H' s'∧Q H') X.xe s
abbrev TIp:=V→V→Hp→VK→Prop
def PIp(X:Cx)(op:Operator)(t:TIp):Prop:=
 ∀(pins:List (Addr×Obj)) (s:Shared) (σ:St) (H:Hp) (x y:V) (v u:Value) (Q:VK),Inv X pins σ H s→dZ x v→dZ y u→t x y H Q→
  wpAny (model X.prog X.w) X.A (inplaceOp op v u) (EP X pins σ Q) X.xe s
section
variable{X:Cx}{pos:Pos}
def dB(i:Nat):TG:=fun v σ H Q=>Q (σ.set i (some v)) H
theorem Hx{i:Nat}{x:Str}(hN:X.N.Nodup)(hi:X.N[i]? =some x)(hx:Loc X.env.scope x)(hf:X.fn x=true∨X.env.scope.names.lookup x=some .local:=by first |exact .inl rfl |exact .inr rfl |assumption):PG X (.Name x pos) (dB i):=by
 intro pins s σ H v u Q I r h;exact wpAny_assign_Name (t6 I hN hi hx r (fun s' I'=>⟨_,H,I',h⟩) hf)
def q5:TGs:=fun vs σ H Q=>vs=[]∧Q σ H
def sJ(t:TG)(u:TGs):TGs:=fun vs σ H Q=>∃v r,vs=v::r∧t v σ H fun σ' H'=>u r σ' H' Q
theorem LR:PGs X [] q5:=by
 intro pins s σ H vs us Q I r h;obtain⟨e,h⟩:=h;subst e;cases r;exact assignInOrder_nil ⟨σ,H,I,h⟩
theorem nQ{e:Expr}{es:List Expr}{t:TG}{u:TGs}(h1:PG X e t)(h2:PGs X es u)
  (hs:(assignEach (e::es) X.env).map (·.2)=assign e X.env::(assignEach es X.env).map (·.2):=by rfl):PGs X (e::es) (sJ t u):=by
 intro pins s σ H vs us Q I r h;obtain⟨v,vr,e1,h⟩:=h;subst e1
 cases r with
 |cons r rr=>
  rw[hs];refine assignInOrder_cons (thn (h1 pins s σ H _ _ _ I r h) fun _ s1 ⟨σ1,H1,I1,q1⟩=>?_);exact h2 pins s1 σ1 H1 _ _ Q I1 rr q1
def z8(K:PySem.W.Frag)(n:Nat)(t:TGs):TG:=fun v σ H Q=>∃a xs,v=.ref a∧SqT K H a xs∧xs.length=n∧t xs σ H Q
theorem UV{es:List Expr}{k:Nat}{t:TGs}{n:Nat}(hc:X.uM=true)(h:PGs X es t)
  (hn:(assignEach es X.env).length=n:=by rfl) (hst:(assignEach es X.env).findIdx? (·.1)=none:=by rfl):PG X (.Tuple es k pos) (z8 X.K n t):=by
 intro pins s σ H v u Q I r hw;obtain⟨a,xs,e1,hq,hl,hw⟩:=hw;subst e1;cases r;obtain⟨its,rv,ht,hz⟩:=I.tuple hq;refine assign_Tuple_tuple (I.ok.hd hc) ht (by simp[hn,←hl,rv.length]) hst fun h' hx=>?_
 have I1:Inv X pins σ H { s with heap:=h' }:=I.fD (t':=s.toks) fun b o e=>hx b o (Nat.ne_of_lt (Heap.lt_size e)) e
 exact h pins _ σ H xs _ Q I1 (by simpa using rv) hw
def gSub(to ti:TE)(t:TSet):TG:=fun v σ H Q=>to σ H fun o H1=>ti σ H1 fun i H2=>t o i v H2 fun H3=>Q σ H3
theorem UG{o i:Expr}{to ti:TE}{t:TSet}(ho:PE X o to)(hi:PE X i ti)(hs:PSet X t)
  (ha:∀v,assign (.Subscript o i pos) X.env v=(do
   let ov ←holding [v] (eval o X.env)
   let iv ←holding [v,ov] (eval i X.env)
   standAt pos
   holding [v,ov,iv] (setItem ov iv v)
   release [v,ov,iv] []):=by intro _;rfl):PG X (.Subscript o i pos) (gSub to ti t):=by
 intro pins s σ H v u Q I r h;rw[ha];refine wpAny_bind (wpAny_holding (thn (ho pins s σ H _ I h) fun ov s1 ⟨x,H1,I1,r1,q1⟩=>?_));refine wpAny_bind (wpAny_holding (thn (hi pins s1 σ H1 _ I1 q1) fun iv s2 ⟨y,H2,I2,r2,q2⟩=>?_));refine wpAny_bind (wpAny_standAt (wpAny_bind (wpAny_holding (thn (hs pins s2 σ H2 x y v ov iv u _ I2 r1 r2 r q2) fun _ s3 ⟨H3,I3,q3⟩=>?_))));exact wpAny_release ⟨σ,H3,I3,q3⟩
def IM(te:TE)(g:TG):TS:=fun D σ H=>te σ H fun x H1=>g x σ H1 D.nx
theorem YM{tg e:Expr}{te:TE}{g:TG}(he:PE X e te)(hg:PG X tg g)(hs:swapsWithSole [tg] e pos.line X.env=pure false:=by rfl)(hw:swappedStores [tg] e X.env=pure none:=by rfl)
  (h1:(assignEach [tg] X.env).map (·.2)=[assign tg X.env]:=by rfl):PS X (.Assign [tg] e pos) (IM te g):=by
 intro pins s σ H D I h;refine wpAny_Assign_stores (thn (he pins s σ H _ I h) fun v s1 ⟨x,H1,I1,r1,q1⟩=>?_) hs hw;rw[h1];exact thn (hg pins s1 σ H1 x v _ I1 r1 q1) fun _ s2 q=>q
theorem ps_set{i:Nat}{x:Str}{e:Expr}{te:TE}{pos':Pos}(hN:X.N.Nodup)(hi:X.N[i]? =some x)(hx:Loc X.env.scope x)(he:PE X e te)(hs:swapsWith e (some (.Name x pos')) pos.line X.env=pure false:=by rfl)(hf:X.fn x=true∨X.env.scope.names.lookup x=some .local:=by first |exact .inl rfl |exact .inr rfl |assumption):
  PS X (.Assign [.Name x pos'] e pos) (IM te (dB i)):=by
 intro pins s σ H D I h;refine wpAny_Assign_Name (thn (he pins s σ H _ I h) fun v s1 ⟨y,H1,I1,r1,q1⟩=>?_) hs;exact t6 I1 hN hi hx r1 (fun s2 I2=>⟨_,H1,I2,q1⟩) hf
def tAug(i:Nat)(te:TE)(ti:TIp):TS:=fun D σ H=>∃x,σ[i]? =some (some x)∧te σ H fun y H1=>ti x y H1 fun z H2=>D.nx (σ.set i (some z)) H2
theorem K8{i:Nat}{x:Str}{e:Expr}{te:TE}{op:Operator}{ti:TIp}{pos':Pos}(hN:X.N.Nodup)(hi:X.N[i]? =some x)(hx:Loc X.env.scope x)(he:PE X e te)(ho:PIp X op ti)(hf:X.fn x=true∨X.env.scope.names.lookup x=some .local:=by first |exact .inl rfl |exact .inr rfl |assumption):
  PS X (.AugAssign (.Name x pos') op e pos) (tAug i te ti):=by
 intro pins s σ H D I h;obtain⟨v,e1,h⟩:=h;obtain⟨m,hn,hl⟩:=I.loc
 have vis:Vis X.env.scope x:=by rcases hx with k |k;exact .inl k;exact .inr (.inl k)
 obtain⟨u,r,l⟩:=hl i x v hi e1 vis;refine wpAny_AugAssign_Name ?_;have go:wpAny (model X.prog X.w) X.A (eval e X.env) (fun w s₂=>wpAny (model X.prog X.w) X.A (inplaceOp op u w) (fun r s₃=>wpAny (model X.prog X.w) X.A (storeName X.env x r) (fun _=>SP X pins D .next) X.xe s₃) X.xe s₂) X.xe s:=by
  refine thn (he pins s σ H _ I h) fun w s1 ⟨y,H1,I1,r1,q1⟩=>?_;refine thn (ho pins s1 σ H1 v y u w _ I1 r r1 q1) fun z s2 ⟨zv,H2,I2,r2,q2⟩=>?_;exact t6 I2 hN hi hx r2 (fun s3 I3=>⟨_,H2,I3,q2⟩) hf
 rcases l with⟨hk,hm⟩ |⟨hk,c,hc,hcell⟩
 ·exact wpAny_loadName_local I.ok.kind hk hn hm go
 ·rcases hk with hk |hk
  ·exact wpAny_loadName_cell I.ok.kind hk hc hcell go
  ·rcases hx with k |k
   ·have :X.env.scope.names.lookup x=some .free:=hk;rw[k] at this;cases this
   ·have :X.env.scope.names.lookup x=some .free:=hk;rw[k] at this;cases this
def ipI(f:Int→Int→Int):TIp:=fun x y H Q=>∃i j,x=.int i∧y=.int j∧Q (.int (f i j)) H
theorem bh:PIp X .Add (ipI fun i j=>i+j):=by
 intro pins s σ H x y v u Q I r1 r2 h;obtain⟨i,j,e1,e2,q⟩:=h;subst e1;subst e2;obtain⟨t,rfl⟩:=r1;obtain⟨t',rfl⟩:=r2;exact iadd_int ⟨.int _,H,I.tok _,⟨_,rfl⟩,q⟩
theorem ip_sub:PIp X .Sub (ipI fun i j=>i - j):=by
 intro pins s σ H x y v u Q I r1 r2 h;obtain⟨i,j,e1,e2,q⟩:=h;subst e1;subst e2;obtain⟨t,rfl⟩:=r1;obtain⟨t',rfl⟩:=r2;exact isub_int ⟨.int _,H,I.tok _,⟨_,rfl⟩,q⟩
def tWhile(c:TT)(tb:TS):TS:=fun D σ H=>∃W:Nat→St→Hp→Prop,(∃m,W m σ H)∧∀m σ H,W m σ H→
 c σ H fun b H1=>if b=true then ∃N:St→Hp→Prop,(∀σ' H',N σ' H'→∃m',m' < m∧W m' σ' H')∧tb { D with nx:=N,ct:=N,bk:=D.nx } σ H1 else D.nx σ H1
theorem Et{c:Expr}{body:List Stmt}{tc:TT}{tb:TS}(hp:PassesOwn (model X.prog X.w) X.A X.env X.xe)(hc:PT X c tc)(hb:PSs X body tb):PS X (.While c body [] pos) (tWhile tc tb):=by
 intro pins s σ H D I h;obtain⟨W,⟨m0,w0⟩,turn⟩:=h;refine wpAny_While (codeAny_whileLoop (fun n s'=>∃σ' H',Inv X pins σ' H' s'∧W n σ' H') ?_ m0 ⟨σ,H,I,w0⟩);rintro n s1 ⟨σ1,H1,I1,w1⟩;refine wpAny_passesOwn hp (thn (hc pins s1 σ1 H1 _ I1 (turn n σ1 H1 w1)) fun b s2 ⟨H2,I2,q2⟩=>?_)
 cases b with
 |true=>
  obtain⟨N,hN,q2⟩:=q2;rw[if_pos rfl];refine wpAny_passesOwn hp (thn (hb pins s2 σ1 H2 _ I2 q2) fun f s3 q3=>?_)
  cases f with
  |next=>
   obtain⟨σ3,H3,I3,n3⟩:=q3;obtain⟨m',hm,w3⟩:=hN σ3 H3 n3;exact⟨m',hm,σ3,H3,I3,w3⟩
  |cont=>
   obtain⟨σ3,H3,I3,n3⟩:=q3;obtain⟨m',hm,w3⟩:=hN σ3 H3 n3;exact⟨m',hm,σ3,H3,I3,w3⟩
  |brk=>exact q3
  |ret v=>exact q3
 |false=>
  rw[if_neg Bool.false_ne_true];exact wpAny_execs_nil ⟨σ1,H2,I2,q2⟩
end
structure It where
 go:Nat→Hp→Prop
 yld:Nat→Hp→V→Hp→Prop
 vL:Nat→Hp→Prop
def FP(X:Cx)(pins:List (Addr×Obj))(H:Hp)(b:Addr):Prop:=
 H b=none∧b≠X.env.locals∧b∉X.fs∧(b∈X.ex∨X.s_0.heap.objs.size≤b)∧(∀x c,X.env.cells.lookup x=some c→c≠b)∧∀p∈X.pn++pins,p.1≠b
theorem Inv.fpOk{X:Cx}{pins:List (Addr×Obj)}{σ:St}{H H':Hp}{s:Shared}{b:Addr}(I:Inv X pins σ H s)(hb:s.heap.objs.size≤b)(hn:H' b=none):FP X pins H' b:=by
 refine⟨hn,Nat.ne_of_gt (Nat.lt_of_lt_of_le I.lt hb),I.nofs hb,.inr (Nat.le_trans I.sz hb),fun x c e z=>?_,fun p hp z=>?_⟩
 ·obtain⟨v,q⟩:=I.cell x c e;exact absurd (Nat.lt_of_lt_of_le q.lt (by rw[z];exact hb)) (Nat.lt_irrefl _)
 ·exact absurd (Nat.lt_of_lt_of_le (Heap.lt_size (I.pin p hp).1) (by rw[z];exact hb)) (Nat.lt_irrefl _)
structure Turn(P:Program)(w:World)(K:PySem.W.Frag)(tg:Expr)(J:It)(fp:List Addr)(it:Addr)(tn:Nat→Heap→Prop):Prop where
 mem:it∈fp
 obj:∀i h,tn i h→∀b∈fp,∃o,h.get? b=some o∧∀v,o.data≠.cell v
 keep:∀i h h',tn i h→(∀b∈fp,∀o,h.get? b=some o→h'.get? b=some o)→tn i h'
 item:∀(X:Cx),X.prog=P→X.w=w→X.K=K→X.uM=true→∀(i:Nat) (pins:List (Addr×Obj)) (s:Shared) (σ:St) (H:Hp) (E:Value→Shared→Prop),Inv X pins σ H s→(∀b∈fp,FP X pins H b)→tn i s.heap→J.go i H→
  wpAny (model P w) X.A (pyNext (.ref it)) (fun r s1=>∃u,r=some u∧
   wpAny (model P w) X.A (letOwnedTupleGo tg (.ref it) u) (fun _ s2=>∃x H',Inv X pins σ H' s2∧dZ x u∧J.yld i H x H'∧tn (i+1) s2.heap∧∀b∈fp,H' b=none) E s1) E s
 done:∀(X:Cx),X.prog=P→X.w=w→X.K=K→X.uM=true→∀(i:Nat) (pins:List (Addr×Obj)) (s:Shared) (σ:St) (H:Hp) (E:Value→Shared→Prop),Inv X pins σ H s→(∀b∈fp,FP X pins H b)→tn i s.heap→J.vL i H→
  wpAny (model P w) X.A (pyNext (.ref it)) (fun r s1=>r=none∧Inv X pins σ H s1) E s
 r8:∀(A:Around) (i:Nat) (s:Shared) (Q:Value→Shared→Prop) (E:Value→Shared→Prop),tn i s.heap→Q (.ref it) s→wpAny (model P w) A (pyIter (.ref it)) Q E s
abbrev TI:=St→Hp→(It→Hp→Prop)→Prop
def PIE(X:Cx)(pins:List (Addr×Obj))(σ:St)(tg:Expr)(R:It→Hp→Prop)(itv:Value)(s2:Shared):Prop:=
 ∃(it:Addr) (fp:List Addr) (tn:Nat→Heap→Prop) (J:It) (H':Hp),itv=.ref it∧Inv X pins σ H' s2∧Turn X.prog X.w X.K tg J fp it tn∧tn 0 s2.heap∧(∀b∈fp,FP X pins H' b)∧R J H'
def PI(X:Cx)(tg iter:Expr)(wi:TI):Prop:=
 ∀(pins:List (Addr×Obj)) (s:Shared) (σ:St) (H:Hp) (R:It→Hp→Prop),Inv X pins σ H s→wi σ H R→
  wpAny (model X.prog X.w) X.A (eval iter X.env) (fun v s1=>wpAny (model X.prog X.w) X.A (pyIter v) (PIE X pins σ tg R) X.xe s1) X.xe s
theorem xr{M:Model}{A:Around}{E:Value→Shared→Prop}{s:Shared}{tg:Expr}{it:Addr}{u:Value}{o:Obj}{n:String}{vs:Array Value}{Q:Unit→Shared→Prop}(ho:s.heap.get? it=some o)(hc:o.cls=.type n)(hd:o.data=.fields vs)
  (hn:["enumerate","zip","dict_itemiterator","dict_reverseitemiterator","odict_iterator","itertools.zip_longest","itertools.pairwise"].contains n=false) (hQ:Q () s):wpAny M A (letOwnedTupleGo tg (.ref it) u) Q E s:=by
 unfold letOwnedTupleGo
 cases tg <;> first
  |exact wpAny_pure hQ
  |(cases u <;> first |exact wpAny_pure hQ |(refine wpAny_bind (wpAny_load ho ?_);rw[hc,hd];show wpAny M A (if (["enumerate","zip","dict_itemiterator","dict_reverseitemiterator","odict_iterator","itertools.zip_longest","itertools.pairwise"].contains n&&vs[0]? ==some (rawInt _))=true then _ else _) Q E s;rw[if_neg (by intro h;rw[hn,Bool.false_and] at h;cases h)];exact wpAny_pure hQ))
def Itl(K:PySem.W.Frag)(a:Addr):It:=
 ⟨fun i H=>∃xs x,SqL K H a xs∧xs[i]? =some x,fun i H x H'=>H'=H∧∀xs,SqL K H a xs→xs[i]? =some x,fun i H=>∃xs,SqL K H a xs∧xs.length≤i⟩
def Itt(K:PySem.W.Frag)(a:Addr):It:=
 ⟨fun i H=>∃xs x,SqT K H a xs∧xs[i]? =some x,fun i H x H'=>H'=H∧∀xs,SqT K H a xs→xs[i]? =some x,fun i H=>∃xs,SqT K H a xs∧xs.length≤i⟩
def Itr(lo:Int)(n:Nat):It:=⟨fun i _=>i < n,fun i H x H'=>H'=H∧x=.int (lo+i),fun i _=>n≤i⟩
theorem zi{P:Program}{w:World}{K:PySem.W.Frag}{tg:Expr}(a it:Addr):Turn P w K tg (Itl K a) [it] it (fun i h=>h.IsListIter it a i) where
 mem:=by simp
 obj:=fun i h st b hb=>by
  have e:b=it:=by simpa using hb
  subst e;obtain⟨o,e,c,d⟩:=st;exact⟨o,e,fun v z=>by rw[d] at z;cases z⟩
 keep:=fun i h h' st k=>st.at fun o e=>k it (by simp) o e
 item:=by
  intro X hP hw hK hc i pins s σ H E I hf st hg;subst hP hw hK;obtain⟨xs,x,hq,hx⟩:=hg;obtain⟨its,rv,p,hz⟩:=I.list hq;obtain⟨u,hu,ru⟩:=rv.get hx;obtain⟨f0,f1,f2,f3,f4,f5⟩:=hf it (by simp);refine wpAny_pyNext_list_item st p.isList (x:=u) (by simpa using hu) fun h' st' sb=>?_
  have I1:Inv X pins σ H { s with heap:=h' }:=I.vF (t':=s.toks) (fun b o hb e=>(sb.2 b hb).trans e) f0 f1 f3 f4 f5
  obtain⟨o,e,c,d⟩:=id st'
  exact⟨u,rfl,xr (s:={ s with heap:=h' }) e c d (by decide) ⟨x,H,I1,ru,⟨rfl,fun ys hy=>by rw[I.cv hy hq];exact hx⟩,st',fun b hb=>(hf b hb).1⟩⟩
 done:=by
  intro X hP hw hK hc i pins s σ H E I hf st hg;subst hP hw hK;obtain⟨xs,hq,hx⟩:=hg;obtain⟨its,rv,p,hz⟩:=I.list hq;obtain⟨f0,f1,f2,f3,f4,f5⟩:=hf it (by simp);have hl:=rv.length;exact wpAny_pyNext_list_end (I.ok.hd hc) st p.isList (by simp;omega) fun h' eb=>⟨rfl,I.vF (t':=s.toks) (fun b o hb e=>eb b o hb e) f0 f1 f3 f4 f5⟩
 r8:=fun _ _ _ _ _ st h=>wpAny_pyIter_listiter st h
theorem wr{P:Program}{w:World}{K:PySem.W.Frag}{tg:Expr}(a it:Addr):Turn P w K tg (Itt K a) [it] it (fun i h=>h.IsTupleIter it a i) where
 mem:=by simp
 obj:=fun i h st b hb=>by
  have e:b=it:=by simpa using hb
  subst e;obtain⟨o,e,c,d⟩:=st;exact⟨o,e,fun v z=>by rw[d] at z;cases z⟩
 keep:=fun i h h' st k=>st.at fun o e=>k it (by simp) o e
 item:=by
  intro X hP hw hK hc i pins s σ H E I hf st hg;subst hP hw hK;obtain⟨xs,x,hq,hx⟩:=hg;obtain⟨its,rv,p,hz⟩:=I.tuple hq;obtain⟨u,hu,ru⟩:=rv.get hx;obtain⟨f0,f1,f2,f3,f4,f5⟩:=hf it (by simp);refine wpAny_pyNext_tuple_item st (show s.heap.IsTuple a its.toArray from p) (x:=u) (by simpa using hu) fun h' st' sb=>?_
  have I1:Inv X pins σ H { s with heap:=h' }:=I.vF (t':=s.toks) (fun b o hb e=>(sb.2 b hb).trans e) f0 f1 f3 f4 f5
  obtain⟨o,e,c,d⟩:=id st'
  exact⟨u,rfl,xr (s:={ s with heap:=h' }) e c d (by decide) ⟨x,H,I1,ru,⟨rfl,fun ys hy=>by rw[I.Cl hy hq];exact hx⟩,st',fun b hb=>(hf b hb).1⟩⟩
 done:=by
  intro X hP hw hK hc i pins s σ H E I hf st hg;subst hP hw hK;obtain⟨xs,hq,hx⟩:=hg;obtain⟨its,rv,p,hz⟩:=I.tuple hq;obtain⟨f0,f1,f2,f3,f4,f5⟩:=hf it (by simp);have hl:=rv.length;exact wpAny_pyNext_tuple_end (I.ok.hd hc) st (show s.heap.IsTuple a its.toArray from p) (by simp;omega) fun h' eb=>⟨rfl,I.vF (t':=s.toks) (fun b o hb e=>eb b o hb e) f0 f1 f3 f4 f5⟩
 r8:=fun _ _ _ _ _ st h=>wpAny_pyIter_tupleiter st h
theorem xx{P:Program}{w:World}{K:PySem.W.Frag}{tg:Expr}(it:Addr)(lo:Int)(n:Nat):Turn P w K tg (Itr lo n) [it] it (fun i h=>IsRangeIter h it (lo+(i:Nat)*1) ((n:Int) - (i:Nat)) 1) where
 mem:=by simp
 obj:=fun i h st b hb=>by
  have e:b=it:=by simpa using hb
  subst e;exact⟨_,st,fun v z=>by
   have z':Data.fields _=Data.cell v:=z;cases z'⟩
 keep:=fun i h h' st k=>k it (by simp) _ st
 item:=by
  intro X hP hw hK hc i pins s σ H E I hf st hg;subst hP hw hK;obtain⟨f0,f1,f2,f3,f4,f5⟩:=hf it (by simp);have W:=Walks.range (prog:=X.prog) (w:=X.w) (I.ok.hd hc) it lo 1 n;refine W.item i s _ _ hg st fun v h' tk hv st' kk=>?_;obtain⟨t,rfl⟩:=hv
  have I1:Inv X pins σ H { s with heap:=h',toks:=tk }:=I.vF (fun b o hb e=>kk b o (by simpa using hb) e) f0 f1 f3 f4 f5
  refine⟨_,rfl,xr (s:={ s with heap:=h',toks:=tk }) (n:="range_iterator") st' rfl rfl (by decide) ⟨.int (lo+i),H,I1,⟨t,?_⟩,⟨rfl,rfl⟩,st',fun b hb=>(hf b hb).1⟩⟩
  rw[Int.mul_one]
 done:=by
  intro X hP hw hK hc i pins s σ H E I hf st hg;subst hP hw hK;obtain⟨f0,f1,f2,f3,f4,f5⟩:=hf it (by simp);exact wpAny_pyNext_range_end (I.ok.hd hc) st (by have :n≤i:=hg;omega) fun h' eb=>⟨rfl,I.vF (t':=s.toks) (fun b o hb e=>eb b o hb e) f0 f1 f3 f4 f5⟩
 r8:=fun _ _ _ _ _ st h=>wpAny_pyIter_rangeiter st h
section
variable{X:Cx}{tg:Expr}
def am(K:PySem.W.Frag)(tl:TE):TI:=fun σ H R=>tl σ H fun x H1=>∃a,x=.ref a∧(∃xs,SqL K H1 a xs)∧R (Itl K a) H1
def iTup(K:PySem.W.Frag)(tl:TE):TI:=fun σ H R=>tl σ H fun x H1=>∃a,x=.ref a∧(∃xs,SqT K H1 a xs)∧R (Itt K a) H1
theorem iI{l:Expr}{tl:TE}(hl:PE X l tl):PI X tg l (am X.K tl):=by
 intro pins s σ H R I h;refine thn (hl pins s σ H _ I h) fun v s1 ⟨x,H1,I1,r1,q1⟩=>?_;obtain⟨a,e,⟨xs,hq⟩,q⟩:=q1;subst e;cases r1;obtain⟨its,rv,p,hz⟩:=I1.list hq;refine wpAny_pyIter_list p.isList ?_;refine⟨s1.heap.objs.size,[s1.heap.objs.size],_,_,H1,rfl,I1.fD (t':=s1.toks) fun b o e=>Heap.get?_push_of_some _ e,zi a _,⟨_,Heap.get?_push_size _ rfl,rfl,rfl⟩,fun b hb=>?_,q⟩;have e:b=s1.heap.objs.size:=by simpa using hb
 subst e;exact I1.fpOk (Nat.le_refl _) (I1.hok.fresh (Nat.le_refl _))
theorem pi_tup{l:Expr}{tl:TE}(hl:PE X l tl):PI X tg l (iTup X.K tl):=by
 intro pins s σ H R I h;refine thn (hl pins s σ H _ I h) fun v s1 ⟨x,H1,I1,r1,q1⟩=>?_;obtain⟨a,e,⟨xs,hq⟩,q⟩:=q1;subst e;cases r1;obtain⟨its,rv,p,hz⟩:=I1.tuple hq;refine wpAny_pyIter_tuple (show s1.heap.IsTuple a its.toArray from p) ?_;refine⟨s1.heap.objs.size,[s1.heap.objs.size],_,_,H1,rfl,I1.fD (t':=s1.toks) fun b o e=>Heap.get?_push_of_some _ e,wr a _,⟨_,Heap.get?_push_size _ rfl,rfl,rfl⟩,fun b hb=>?_,q⟩;have e:b=s1.heap.objs.size:=by simpa using hb
 subst e;exact I1.fpOk (Nat.le_refl _) (I1.hok.fresh (Nat.le_refl _))
theorem bf{pins:List (Addr×Obj)}{σ:St}{H:Hp}{s:Shared}{R:It→Hp→Prop}{E:Value→Shared→Prop}{lo hi:Int}{t u v:Tok}{tk:Nat}(I:Inv X pins σ H s)(h1: -(2 ^ 62)≤lo)(h2:lo < 2 ^ 62)(h3: -(2 ^ 62)≤hi)(h4:hi < 2 ^ 62)
  (q:R (Itr lo (hi - lo).toNat) H):wpAny (model X.prog X.w) X.A (pyIter (.ref s.heap.objs.size)) (PIE X pins σ tg R) E { s with heap:=s.heap.push { cls:=.type "range",data:=.fields #[.int lo t,.int hi u,.int 1 v] },toks:=tk }:=by
 refine wpAny_pyIter_range (IsRange.new ..) (small_one h1 h2 h3 h4) ?_
 have I1:Inv X pins σ H { s with heap:=s.heap.push { cls:=.type "range",data:=.fields #[.int lo t,.int hi u,.int 1 v] },toks:=tk }:=I.fD fun b o e=>Heap.get?_push_of_some _ e
 refine⟨(s.heap.push { cls:=.type "range",data:=.fields #[.int lo t,.int hi u,.int 1 v] }).objs.size,[(s.heap.push { cls:=.type "range",data:=.fields #[.int lo t,.int hi u,.int 1 v] }).objs.size],_,_,H,rfl,
  I1.fD (t':=tk) fun b o e=>Heap.get?_push_of_some _ e,xx _ lo (hi - lo).toNat,?_,fun b hb=>?_,q⟩
 ·have e1:lo+((0:Nat):Int)*1=lo:=by simp
  have e2:(((hi - lo).toNat:Nat):Int) - ((0:Nat):Int)=Builtin.Range.rangeSize lo hi 1:=by rw[rangeSize_one];split <;> omega
  show IsRangeIter _ _ (lo+((0:Nat):Int)*1) ((((hi - lo).toNat:Nat):Int) - ((0:Nat):Int)) 1;rw[e1,e2];exact Heap.get?_push_size _ rfl
 ·have e:b=(s.heap.push { cls:=.type "range",data:=.fields #[.int lo t,.int hi u,.int 1 v] }).objs.size:=by simpa using hb
  subst e;exact I1.fpOk (Nat.le_refl _) (I1.hok.fresh (Nat.le_refl _))
def vd(ta:TA):TI:=fun σ H R=>ta σ H fun vs H1=>∃j:Int,vs=[.int j]∧ -(2 ^ 62)≤j∧j < 2 ^ 62∧R (Itr 0 j.toNat) H1
def iRng2(ta:TA):TI:=fun σ H R=>ta σ H fun vs H1=>∃i j:Int,vs=[.int i,.int j]∧(-(2 ^ 62)≤i∧i < 2 ^ 62∧ -(2 ^ 62)≤j∧j < 2 ^ 62)∧R (Itr i (j - i).toNat) H1
theorem zI{a:Expr}{ta:TA}{p pos:Pos}(hg:Gl X "range")(hm:X.mg "range"=none)(ha:PA X [a] ta)(hs:starEach [a] X.env=[(false,eval a X.env)]:=by rfl):PI X tg (.Call (.Name "range" p) [a] [] pos) (vd ta):=by
 intro pins s σ H R I h;refine Call_ (US I hg hm boot_range (PyProof.Rows.callWith_type1 (thn (ha pos pins s σ H _ I h) fun us s1 ⟨vs,H1,I1,r1,q1⟩=>?_) hs rfl));obtain⟨j,e,q1,q2,q⟩:=q1;subst e
 cases r1 with
 |cons r rr=>
  cases rr;obtain⟨t,rfl⟩:=r;exact call_range_1 (bf I1 (by omega) (by omega) q1 q2 (by simpa using q))
theorem Cr{a b:Expr}{ta:TA}{p pos:Pos}(hg:Gl X "range")(hm:X.mg "range"=none)(ha:PA X [a,b] ta)(hs:starEach [a,b] X.env=[(false,eval a X.env),(false,eval b X.env)]:=by rfl)(hs2:starEach [b] X.env=[(false,eval b X.env)]:=by rfl):
  PI X tg (.Call (.Name "range" p) [a,b] [] pos) (iRng2 ta):=by
 intro pins s σ H R I h;refine Call_ (US I hg hm boot_range (PyProof.Rows.callWith_type1 (thn (ha pos pins s σ H _ I h) fun us s1 ⟨vs,H1,I1,r1,q1⟩=>?_) (by rw[hs,hs2]) (by rw[hs2];rfl)));obtain⟨i,j,e,⟨q1,q2,q3,q4⟩,q⟩:=q1;subst e
 cases r1 with
 |cons r rr=>
  cases rr with
  |cons r' rr=>
   cases rr;obtain⟨t,rfl⟩:=r;obtain⟨t',rfl⟩:=r';exact call_range_2 (bf I1 q1 q2 q3 q4 q)
def tFor(wi:TI)(g:TG)(tb:TS):TS:=fun D σ H=>wi σ H fun J H1=>∃W:Nat→Nat→St→Hp→Prop,(∃m,W 0 m σ H1)∧∀i m σ H,W i m σ H→
 (J.vL i H∧D.nx σ H)∨(J.go i H∧∃N:St→Hp→Prop,(∀σ' H',N σ' H'→∃m',m' < m∧W (i+1) m' σ' H')∧∀x H',J.yld i H x H'→g x σ H' fun σ2 H2=>tb { D with nx:=N,ct:=N,bk:=D.nx } σ2 H2)
def XX(fp:List Addr)(h:Heap):List (Addr×Obj):=fp.filterMap fun b=>(h.get? b).map fun o=>(b,o)
theorem PD{fp:List Addr}{h:Heap}{b:Addr}{o:Obj}(hb:b∈fp)(e:h.get? b=some o):(b,o)∈XX fp h:=List.mem_filterMap.mpr ⟨b,hb,by rw[e];rfl⟩
theorem Cd{fp:List Addr}{h:Heap}{p:Addr×Obj}(hp:p∈XX fp h):p.1∈fp∧h.get? p.1=some p.2:=by
 obtain⟨b,hb,e⟩:=List.mem_filterMap.mp hp
 cases q:h.get? b with
 |none=>rw[q] at e;cases e
 |some o=>
  rw[q] at e;have e':(b,o)=p:=Option.some.inj e;subst e';exact⟨hb,q⟩
theorem Inv.Cc{pins:List (Addr×Obj)}{σ:St}{H:Hp}{s:Shared}{fp:List Addr}(I:Inv X pins σ H s)(hf:∀b∈fp,FP X pins H b)(ho:∀b∈fp,∃o,s.heap.get? b=some o∧∀v,o.data≠.cell v):Inv X (pins++XX fp s.heap) σ H s:=
 I.qj fun p hp=>(List.mem_append.mp hp).elim (fun z=>I.pin p (List.mem_append_right _ z)) fun z=>by
  obtain⟨hb,e⟩:=Cd z;obtain⟨f0,f1,f2,_⟩:=hf p.1 hb;obtain⟨o,e',d⟩:=ho p.1 hb;rw[e] at e';cases e';exact⟨e,f0,f1,f2,d⟩
theorem Inv.QL{pins pl:List (Addr×Obj)}{σ:St}{H:Hp}{s:Shared}(I:Inv X (pins++pl) σ H s):Inv X pins σ H s:=I.qj fun p hp=>I.pin p (List.mem_append_right _ (List.mem_append_left _ hp))
theorem sZ{iter:Expr}{body:List Stmt}{wi:TI}{g:TG}{tb:TS}{pos:Pos}(hp:PassesOwn (model X.prog X.w) X.A X.env X.xe)(hc:X.uM=true)(hi:PI X tg iter wi)(hg:PG X tg g)(hb:PSs X body tb)
  (hs:∀x,foldedSetIterable iter X.env x=pure x:=by intro _;rfl):PS X (.For tg iter body [] pos) (tFor wi g tb):=by
 intro pins s σ H D I h;refine wpAny_For (thn (hi pins s σ H _ I h) fun v s1 h1=>thn h1 fun itv s2 h2=>?_) hs;obtain⟨it,fp,tn,J,H2,e,I2,T,st2,f2,W,⟨m0,w0⟩,turn⟩:=h2;subst e;have stat:∀{H':Hp},(∀b∈fp,H' b=none)→∀b∈fp,FP X pins H' b:=fun hn b hb=>⟨hn b hb,(f2 b hb).2⟩;refine codeAny_forLoop_any (fun n s'=>∃i σ' H',Inv X pins σ' H' s'∧tn i s'.heap∧(∀b∈fp,H' b=none)∧W i n σ' H') ?_ m0 ⟨0,σ,H2,I2,st2,fun b hb=>(f2 b hb).1,w0⟩;rintro n s3 ⟨i,σ3,H3,I3,st3,fr3,w3⟩
 rcases turn i n σ3 H3 w3 with⟨vL,qn⟩ |⟨go,N,hN,step⟩
 ·refine wpAny_passesOwn hp (thn (T.done X rfl rfl rfl hc i pins s3 σ3 H3 X.xe I3 (stat fr3) st3 vL) fun r s4 ⟨hr,I4⟩=>?_);subst hr;exact wpAny_execs_nil ⟨σ3,H3,I4,qn⟩
 ·refine wpAny_passesOwn hp (thn (T.item X rfl rfl rfl hc i pins s3 σ3 H3 X.xe I3 (stat fr3) st3 go) fun r s4 ⟨u,hr,h4⟩=>?_);subst hr;refine wpAny_passesOwn hp (thn h4 fun _ s5 ⟨x,H5,I5,r5,y5,st5,fr5⟩=>?_);have I5':=I5.Cc (stat fr5) (T.obj _ _ st5);refine wpAny_passesOwn hp (thn (hg _ s5 σ3 H5 x u _ I5' r5 (step x H5 y5)) fun _ s6 ⟨σ6,H6,I6,q6⟩=>?_);refine wpAny_passesOwn hp (thn (hb _ s6 σ6 H6 _ I6 q6) fun f s7 q7=>?_);have again:∀{σ7:St} {H7:Hp},Inv X (pins++XX fp s5.heap) σ7 H7 s7→N σ7 H7→∃m,m < n∧∃i σ' H',Inv X pins σ' H' s7∧tn i s7.heap∧(∀b∈fp,H' b=none)∧W i m σ' H':=fun {σ7 H7} I7 n7=>by
   obtain⟨m',hm,w7⟩:=hN σ7 H7 n7;refine⟨m',hm,i+1,σ7,H7,I7.QL,T.keep _ _ _ st5 fun b hb o e=>(I7.pin (b,o) (List.mem_append_right _ (List.mem_append_right _ (PD hb e)))).1,fun b hb=>?_,w7⟩;obtain⟨o,e,d⟩:=T.obj _ _ st5 b hb;exact(I7.pin (b,o) (List.mem_append_right _ (List.mem_append_right _ (PD hb e)))).2.1
  cases f with
  |next=>obtain⟨σ7,H7,I7,n7⟩:=q7;exact again I7 n7
  |cont=>obtain⟨σ7,H7,I7,n7⟩:=q7;exact again I7 n7
  |brk=>obtain⟨σ7,H7,I7,q7⟩:=q7;exact⟨σ7,H7,I7.QL,q7⟩
  |ret v=>obtain⟨x7,σ7,H7,I7,r7,q7⟩:=q7;exact⟨x7,σ7,H7,I7.QL,r7,q7⟩
end
theorem Fk{K:PySem.W.Frag}{a:Addr}{xs:List V}{g:TG}{tb:TS}{D:lB}{σ:St}{H:Hp}(Pv:Nat→St→Hp→Prop)(h0:Pv 0 σ H)(hl:∀i σ H,i≤xs.length→Pv i σ H→SqL K H a xs)
  (hs:∀i x σ H,xs[i]? =some x→Pv i σ H→g x σ H fun σ2 H2=>tb { D with nx:=Pv (i+1),ct:=Pv (i+1),bk:=D.nx } σ2 H2) (hd:∀σ H,Pv xs.length σ H→D.nx σ H):
  ∃W:Nat→Nat→St→Hp→Prop,(∃m,W 0 m σ H)∧∀i m σ H,W i m σ H→
   ((Itl K a).vL i H∧D.nx σ H)∨((Itl K a).go i H∧∃N:St→Hp→Prop,(∀σ' H',N σ' H'→∃m',m' < m∧W (i+1) m' σ' H')∧∀x H',(Itl K a).yld i H x H'→g x σ H' fun σ2 H2=>tb { D with nx:=N,ct:=N,bk:=D.nx } σ2 H2):=by
 refine⟨fun i m σ H=>m=xs.length - i∧i≤xs.length∧Pv i σ H,⟨xs.length,by simp,Nat.zero_le _,h0⟩,?_⟩;rintro i m σ H ⟨rfl,hi,p⟩;have q:=hl i σ H hi p
 by_cases hlt:i < xs.length
 ·refine .inr ⟨⟨xs,xs[i],q,by simp[hlt]⟩,Pv (i+1),fun σ' H' p'=>⟨xs.length - (i+1),by omega,rfl,hlt,p'⟩,fun x H' y=>?_⟩;obtain⟨e,y⟩:=y;subst e;exact hs i x σ _ (y xs q) p
 ·have e:i=xs.length:=by omega
  subst e;exact .inl ⟨⟨xs,q,Nat.le_refl _⟩,hd σ H p⟩
theorem U7{lo:Int}{n:Nat}{g:TG}{tb:TS}{D:lB}{σ:St}{H:Hp}(Pv:Nat→St→Hp→Prop)(h0:Pv 0 σ H)
  (hs:∀i σ H,i < n→Pv i σ H→g (.int (lo+i)) σ H fun σ2 H2=>tb { D with nx:=Pv (i+1),ct:=Pv (i+1),bk:=D.nx } σ2 H2) (hd:∀σ H,Pv n σ H→D.nx σ H):
  ∃W:Nat→Nat→St→Hp→Prop,(∃m,W 0 m σ H)∧∀i m σ H,W i m σ H→
   ((Itr lo n).vL i H∧D.nx σ H)∨((Itr lo n).go i H∧∃N:St→Hp→Prop,(∀σ' H',N σ' H'→∃m',m' < m∧W (i+1) m' σ' H')∧∀x H',(Itr lo n).yld i H x H'→g x σ H' fun σ2 H2=>tb { D with nx:=N,ct:=N,bk:=D.nx } σ2 H2):=by
 refine⟨fun i m σ H=>m=n - i∧i≤n∧Pv i σ H,⟨n,by simp,Nat.zero_le _,h0⟩,?_⟩;rintro i m σ H ⟨rfl,hi,p⟩
 by_cases hlt:i < n
 ·refine .inr ⟨hlt,Pv (i+1),fun σ' H' p'=>⟨n - (i+1),by omega,rfl,hlt,p'⟩,fun x H' y=>?_⟩;obtain⟨e,y⟩:=y;subst e y;exact hs i σ _ hlt p
 ·have e:i=n:=by omega
  subst e;exact .inl ⟨Nat.le_refl _,hd σ H p⟩
abbrev R2:=V→V→Hp→VK→Prop
def OpR(X:Cx)(f:Value→Value→Sem Value)(r:R2):Prop:=
 ∀(pins:List (Addr×Obj)) (s:Shared) (σ:St) (H:Hp) (x y:V) (v u:Value) (Q:VK),Inv X pins σ H s→dZ x v→dZ y u→r x y H Q→
  wpAny (model X.prog X.w) X.A (f v u) (EP X pins σ Q) X.xe s
def tJ(X:Cx)(f:Value)(r:List V→Hp→VK→Prop):Prop:=
 ∀(pins:List (Addr×Obj)) (s:Shared) (σ:St) (H:Hp) (xs:List V) (us:List Value) (Q:VK),Inv X pins σ H s→cR xs us→r xs H Q→
  wpAny (model X.prog X.w) X.A (call f us) (EP X pins σ Q) X.xe s
def tOp(r:R2)(ta tb:TE):TE:=fun σ H Q=>ta σ H fun x H1=>tb σ H1 fun y H2=>r x y H2 Q
def rI(C:Int→Int→Prop)(g:Int→Int→V):R2:=fun x y H Q=>∃i j,x=.int i∧y=.int j∧C i j∧Q (g i j) H
def rI0(g:Int→Int→V):R2:=fun x y H Q=>∃i j,x=.int i∧y=.int j∧Q (g i j) H
section
variable{X:Cx}{a b c:Expr}{ta tb tc:TE}{pos:Pos}
theorem binT(ha:PE X a ta)(hb:PE X b tb){pins:List (Addr×Obj)}{s:Shared}{σ:St}{H:Hp}{R:V→V→Hp→Prop}(I:Inv X pins σ H s)
  (h:ta σ H fun x H1=>tb σ H1 fun y H2=>R x y H2) {Q:Value→Shared→Prop} {f:Value→Value→Sem Value}
  (hf:∀v u s2 x y H2,Inv X pins σ H2 s2→dZ x v→dZ y u→R x y H2→wpAny (model X.prog X.w) X.A (f v u) Q X.xe s2):
  wpAny (model X.prog X.w) X.A (eval a X.env) (fun v s₁=>wpAny (model X.prog X.w) X.A (eval b X.env) (fun u s₂=>wpAny (model X.prog X.w) X.A (f v u) Q X.xe s₂) X.xe s₁) X.xe s:=by
 refine thn (ha pins s σ H _ I h) fun v s1 ⟨x,H1,I1,r1,q1⟩=>?_;refine thn (hb pins s1 σ H1 _ I1 q1) fun u s2 ⟨y,H2,I2,r2,q2⟩=>?_;exact hf v u s2 x y H2 I2 r1 r2 q2
theorem dG{op:Operator}{r:R2}(ho:OpR X (binaryOp op) r)(ha:PE X a ta)(hb:PE X b tb):PE X (.BinOp a op b pos) (tOp r ta tb):=by
 intro pins s σ H Q I h;exact wpAny_BinOp (binT ha hb I h fun v u s2 x y H2 I2 rx ry q=>ho pins s2 σ H2 x y v u Q I2 rx ry q)
theorem opI{f:Value→Value→Sem Value}{C:Int→Int→Prop}{g:Int→Int→Int}
  (rule:∀(i j:Int) (t u:Tok) (s:Shared) (Q:Value→Shared→Prop) (E:Value→Shared→Prop),C i j→Q (.int (g i j) s.toks) { s with toks:=s.toks+1 }→wpAny (model X.prog X.w) X.A (f (.int i t) (.int j u)) Q E s):
  OpR X f (rI C fun i j=>.int (g i j)):=by
 intro pins s σ H x y v u Q I rx ry h;obtain⟨i,j,rfl,rfl,hc,q⟩:=h;obtain⟨t,rfl⟩:=rx;obtain⟨t',rfl⟩:=ry;exact rule i j t t' s _ _ hc ⟨.int (g i j),H,I.tok _,⟨_,rfl⟩,q⟩
theorem opI0{f:Value→Value→Sem Value}{g:Int→Int→Int}
  (rule:∀(i j:Int) (t u:Tok) (s:Shared) (Q:Value→Shared→Prop) (E:Value→Shared→Prop),Q (.int (g i j) s.toks) { s with toks:=s.toks+1 }→wpAny (model X.prog X.w) X.A (f (.int i t) (.int j u)) Q E s):
  OpR X f (rI0 fun i j=>.int (g i j)):=by
 intro pins s σ H x y v u Q I rx ry h;obtain⟨i,j,rfl,rfl,q⟩:=h;obtain⟨t,rfl⟩:=rx;obtain⟨t',rfl⟩:=ry;exact rule i j t t' s _ _ ⟨.int (g i j),H,I.tok _,⟨_,rfl⟩,q⟩
theorem opB0{f:Value→Value→Sem Value}{g:Int→Int→Bool}
  (rule:∀(i j:Int) (t u:Tok) (s:Shared) (Q:Value→Shared→Prop) (E:Value→Shared→Prop),Q (.bool (g i j)) s→wpAny (model X.prog X.w) X.A (f (.int i t) (.int j u)) Q E s):
  OpR X f (rI0 fun i j=>.bl (g i j)):=by
 intro pins s σ H x y v u Q I rx ry h;obtain⟨i,j,rfl,rfl,q⟩:=h;obtain⟨t,rfl⟩:=rx;obtain⟨t',rfl⟩:=ry;exact rule i j t t' s _ _ ⟨.bl (g i j),H,I,rfl,q⟩
def CDiv(i j:Int):Prop:=0 < j∧j < 1073741824
def CPow(i j:Int):Prop:=0≤j∧j≤1000000∧i.natAbs < 2 ^ 64
def CMul(i j:Int):Prop:=(-(2 ^ 64) < i∧i < 2 ^ 64)∨(-(2 ^ 64) < j∧j < 2 ^ 64)
theorem CMul.ok{i j:Int}(h:CMul i j):IntMulOk i j:=by
 rcases h with⟨h1,h2⟩ |⟨h1,h2⟩
 ·exact .of_left (intBits_le_64 h1 h2)
 ·exact .of_right (intBits_le_64 h1 h2)
theorem gJ:OpR X (binaryOp .Add) (rI0 fun i j=>.int (i+j)):=opI0 fun _ _ _ _ _ _ _ q=>add_int q
theorem mX:OpR X (binaryOp .Sub) (rI0 fun i j=>.int (i - j)):=opI0 fun _ _ _ _ _ _ _ q=>sub_int q
theorem oN:OpR X (binaryOp .Mult) (rI CMul fun i j=>.int (i*j)):=opI fun _ _ _ _ _ _ _ hc q=>mul_int q hc.ok
theorem ZQ:OpR X (binaryOp .FloorDiv) (rI CDiv fun i j=>.int (i / j)):=opI fun i j _ _ _ _ _ hc q=>by
 have h1:(0:Int) < j:=hc.1;have h2:j < 1073741824:=hc.2;exact floordiv_int (by omega) (by rw[Int.fdiv_eq_ediv_of_nonneg i (by omega)];exact q) (.inl (PyProof.noPylong_small (by omega)))
theorem op_mod:OpR X (binaryOp .Mod) (rI (fun _ j=>0 < j) fun i j=>.int (i % j)):=opI fun i j _ _ _ _ _ hc q=>by
 have h1:(0:Int) < j:=hc;exact mod_int' (by omega) (by rw[Int.fmod_eq_emod_of_nonneg i (by omega)];exact q)
theorem op_shl:OpR X (binaryOp .LShift) (rI CPow fun i j=>.int (i*2 ^ j.toNat)):=opI fun _ _ _ _ _ _ _ hc q=>lshift_int_small hc.1 hc.2.1 hc.2.2 q
end
def scal:V→V→Bool
 |.non,.non=>true |.non,.int _=>true |.int _,.non=>true |.non,.bl _=>true |.bl _,.non=>true |.non,.str _=>true |.str _,.non=>true
 |.int _,.int _=>true |.bl _,.bl _=>true |.str _,.str _=>true |.byt _,.byt _=>true
 |.int _,.str _=>true |.str _,.int _=>true |.bl _,.str _=>true |.str _,.bl _=>true
 |_,_=>false
def rEq:R2:=fun x y H Q=>scal x y=true∧Q (.bl (decide (x=y))) H
def rNe:R2:=fun x y H Q=>scal x y=true∧Q (.bl (!decide (x=y))) H
theorem rh{i j:Int}:decide (V.int i=V.int j)=(i==j):=by
 rw[Bool.eq_iff_iff];simp
theorem Br{i j:Bool}:decide (V.bl i=V.bl j)=(i==j):=by
 rw[Bool.eq_iff_iff];simp
theorem qk{i j:Str}:decide (V.str i=V.str j)=(i==j):=by
 rw[Bool.eq_iff_iff];simp
theorem qf{i j:Array UInt8}:decide (V.byt i=V.byt j)=(i.toList==j.toList):=by
 rw[Bool.eq_iff_iff];cases i;cases j;simp
section
variable{X:Cx}{a b c:Expr}{ta tb tc:TE}{pos:Pos}
theorem fF{pins:List (Addr×Obj)}{σ:St}{H:Hp}{s:Shared}{Q:VK}{k k':Bool}(I:Inv X pins σ H s)(q:Q (.bl k) H)(e:k=k'):EP X pins σ Q (.bool k') s:=by
 subst e;exact⟨.bl k,H,I,rfl,q⟩
theorem cY:OpR X (compareOp .Eq) rEq:=by
 intro pins s σ H x y v u Q I rx ry h;obtain⟨hs,q⟩:=h
 cases x with
 |non=>
  cases rx
  cases y with
  |non=>cases ry;exact PySem.EqNone.eq_none_none (fF I q (by simp))
  |bl j=>cases ry;exact PySem.EqNone.eq_none_bool (fF I q (by simp))
  |int j=>obtain⟨t',rfl⟩:=ry;exact PySem.EqNone.eq_none_int (fF I q (by simp))
  |str j=>obtain⟨t',rfl⟩:=ry;exact PySem.EqNone.eq_none_str (fF I q (by simp))
  |_=>exact absurd (show false=true from hs) Bool.false_ne_true
 |bl i=>
  cases rx
  cases y with
  |non=>cases ry;exact PySem.EqNone.eq_bool_none (fF I q (by simp))
  |bl j=>cases ry;exact eq_bool (fF I q Br)
  |str j=>obtain⟨t',rfl⟩:=ry;exact PySem.EqMixed.eq_bool_str (fF I q (by simp))
  |_=>exact absurd (show false=true from hs) Bool.false_ne_true
 |int i=>
  obtain⟨t,rfl⟩:=rx
  cases y with
  |non=>cases ry;exact PySem.EqNone.eq_int_none (fF I q (by simp))
  |int j=>obtain⟨t',rfl⟩:=ry;exact eq_int (fF I q rh)
  |str j=>obtain⟨t',rfl⟩:=ry;exact PySem.EqMixed.eq_int_str (fF I q (by simp))
  |_=>exact absurd (show false=true from hs) Bool.false_ne_true
 |str i=>
  obtain⟨t,rfl⟩:=rx
  cases y with
  |non=>cases ry;exact PySem.EqNone.eq_str_none (fF I q (by simp))
  |bl j=>cases ry;exact PySem.EqMixed.eq_str_bool (fF I q (by simp))
  |int j=>obtain⟨t',rfl⟩:=ry;exact PySem.EqMixed.eq_str_int (fF I q (by simp))
  |str j=>obtain⟨t',rfl⟩:=ry;exact eq_str (fF I q qk)
  |_=>exact absurd (show false=true from hs) Bool.false_ne_true
 |byt i=>
  obtain⟨t,rfl⟩:=rx
  cases y with
  |byt j=>obtain⟨t',rfl⟩:=ry;exact PySem.W.eq_bytes (fF I q qf)
  |_=>exact absurd (show false=true from hs) Bool.false_ne_true
 |_=>cases y <;> exact absurd (show false=true from hs) Bool.false_ne_true
theorem xu:OpR X (compareOp .NotEq) rNe:=by
 intro pins s σ H x y v u Q I rx ry h;obtain⟨hs,q⟩:=h
 cases x with
 |non=>
  cases rx
  cases y with
  |non=>cases ry;exact PySem.EqNone.ne_none_none (fF I q (by simp))
  |bl j=>cases ry;exact PySem.EqNone.ne_none_bool (fF I q (by simp))
  |int j=>obtain⟨t',rfl⟩:=ry;exact PySem.EqNone.ne_none_int (fF I q (by simp))
  |str j=>obtain⟨t',rfl⟩:=ry;exact PySem.EqNone.ne_none_str (fF I q (by simp))
  |_=>exact absurd (show false=true from hs) Bool.false_ne_true
 |bl i=>
  cases rx
  cases y with
  |non=>cases ry;exact PySem.EqNone.ne_bool_none (fF I q (by simp))
  |bl j=>cases ry;exact ne_bool (fF I q (congrArg not Br))
  |str j=>obtain⟨t',rfl⟩:=ry;exact PySem.EqMixed.ne_bool_str (fF I q (by simp))
  |_=>exact absurd (show false=true from hs) Bool.false_ne_true
 |int i=>
  obtain⟨t,rfl⟩:=rx
  cases y with
  |non=>cases ry;exact PySem.EqNone.ne_int_none (fF I q (by simp))
  |int j=>obtain⟨t',rfl⟩:=ry;exact ne_int (fF I q (congrArg not rh))
  |str j=>obtain⟨t',rfl⟩:=ry;exact PySem.EqMixed.ne_int_str (fF I q (by simp))
  |_=>exact absurd (show false=true from hs) Bool.false_ne_true
 |str i=>
  obtain⟨t,rfl⟩:=rx
  cases y with
  |non=>cases ry;exact PySem.EqNone.ne_str_none (fF I q (by simp))
  |bl j=>cases ry;exact PySem.EqMixed.ne_str_bool (fF I q (by simp))
  |int j=>obtain⟨t',rfl⟩:=ry;exact PySem.EqMixed.ne_str_int (fF I q (by simp))
  |str j=>obtain⟨t',rfl⟩:=ry;exact ne_str (fF I q (congrArg not qk))
  |_=>exact absurd (show false=true from hs) Bool.false_ne_true
 |byt i=>
  obtain⟨t,rfl⟩:=rx
  cases y with
  |byt j=>obtain⟨t',rfl⟩:=ry;exact PySem.W.ne_bytes (fF I q (congrArg not qf))
  |_=>exact absurd (show false=true from hs) Bool.false_ne_true
 |_=>cases y <;> exact absurd (show false=true from hs) Bool.false_ne_true
theorem tL:OpR X (compareOp .Lt) (rI0 fun i j=>.bl (decide (i < j))):=opB0 fun _ _ _ _ _ _ _ q=>lt_int q
theorem op_le:OpR X (compareOp .LtE) (rI0 fun i j=>.bl (decide (i≤j))):=opB0 fun _ _ _ _ _ _ _ q=>le_int q
theorem fW:OpR X (compareOp .Gt) (rI0 fun i j=>.bl (decide (j < i))):=opB0 fun _ _ _ _ _ _ _ q=>gt_int q
theorem rD:OpR X (compareOp .GtE) (rI0 fun i j=>.bl (decide (j≤i))):=opB0 fun _ _ _ _ _ _ _ q=>ge_int q
theorem bD(b:Expr){op:CmpOp}(h:op≠.In:=by decide)(h2:op≠.NotIn:=by decide):behindInMarks op b=false:=by
 have e1:(op==CmpOp.In)=false:=by cases op <;> first |rfl |exact absurd rfl h
 have e2:(op==CmpOp.NotIn)=false:=by cases op <;> first |rfl |exact absurd rfl h2
 cases b <;> simp[behindInMarks,e1,e2]
theorem gM{op:CmpOp}{r:R2}(ho:OpR X (compareOp op) r)(ha:PE X a ta)(hb:PE X b tb)(hm:behindInMarks op b=false):PE X (.Compare a [op] [b] pos) (tOp r ta tb):=by
 intro pins s σ H Q I h;exact wpAny_Compare1 (binT ha hb I h fun v u s2 x y H2 I2 rx ry q=>ho pins s2 σ H2 x y v u Q I2 rx ry q) hm
def qW(t:TE):TT:=fun σ H Q=>t σ H fun x H'=>∃k,x=.bl k∧Q k H'
theorem bE{op:CmpOp}{r:R2}(ho:OpR X (compareOp op) r)(ha:PE X a ta)(hb:PE X b tb)(hm:behindInMarks op b=false):PT X (.Compare a [op] [b] pos) (qW (tOp r ta tb)):=by
 intro pins s σ H Q I h;refine wpAny_isTrue_Compare1 (thn (ha pins s σ H _ I h) fun v s1 ⟨x,H1,I1,r1,q1⟩=>thn (hb pins s1 σ H1 _ I1 q1) fun u s2 ⟨y,H2,I2,r2,q2⟩=>
  thn (ho pins s2 σ H2 x y v u _ I2 r1 r2 q2) fun c s3 ⟨z,H3,I3,r3,k,e,q3⟩=>?_) hm
 subst e;cases r3;exact wpAny_truthy_bool ⟨H3,I3,q3⟩
theorem G3:(sizeLine:Nat) < 2 ^ 63:=by rw[sizeLine_eq];decide
theorem az{x:V}{us:List Value}(r:cR [x] us):∃u,us=[u]∧dZ x u:=by
 cases r with
 |cons r1 r2=>cases r2;exact⟨_,rfl,r1⟩
theorem vals2{x y:V}{us:List Value}(r:cR [x,y] us):∃u w',us=[u,w']∧dZ x u∧dZ y w':=by
 cases r with
 |cons r1 r2=>
  cases r2 with
  |cons r3 r4=>cases r4;exact⟨_,_,rfl,r1,r3⟩
theorem V5(hc:X.uM=true):tJ X (.builtin "max") (fun xs H Q=>∃i j,xs=[.int i,.int j]∧Q (.int (if j > i then j else i)) H):=by
 intro pins s σ H xs us Q I r h;obtain⟨i,j,rfl,q⟩:=h;obtain⟨u,w',rfl,⟨t,rfl⟩,⟨t',rfl⟩⟩:=vals2 r;refine max_two_ints (I.ok.hd hc) fun h' tk k=>⟨_,H,I.fD k,?_,q⟩
 by_cases hj:j > i
 ·rw[if_pos hj,if_pos hj];exact⟨_,rfl⟩
 ·rw[if_neg hj,if_neg hj];exact⟨_,rfl⟩
theorem GR(hc:X.uM=true):tJ X (.builtin "min") (fun xs H Q=>∃i j,xs=[.int i,.int j]∧Q (.int (if j < i then j else i)) H):=by
 intro pins s σ H xs us Q I r h;obtain⟨i,j,rfl,q⟩:=h;obtain⟨u,w',rfl,⟨t,rfl⟩,⟨t',rfl⟩⟩:=vals2 r;refine min_two_ints (I.ok.hd hc) fun h' tk k=>⟨_,H,I.fD k,?_,q⟩
 by_cases hj:j < i
 ·rw[if_pos hj,if_pos hj];exact⟨_,rfl⟩
 ·rw[if_neg hj,if_neg hj];exact⟨_,rfl⟩
end
structure t5(h:Heap)(x dx C:Addr)(mA:Str→Option Value):Prop where
 obj:h.get? x=some (PySem.W.instObj C dx)
 ns:h.Ns1 dx mA
 ne:dx≠x
theorem Af{h:Heap}{dx:Addr}{mA:Str→Option Value}(n:h.Ns1 dx mA):∃od,h.get? dx=some od∧∀name,PySem.W.lookIn name od=some (mA name):=by
 obtain⟨o,es,ep,ho,hd,hk,_,hm⟩:=n;refine⟨o,ho,fun name=>?_⟩;have e:=hm name;unfold nsFind findBy at e;rw[←Array.find?_toList] at e;unfold PySem.W.lookIn;rw[hd];dsimp only
 split
 ·rename_i y q;rw[q] at e;exact congrArg some e
 ·rename_i q;rw[q] at e;have a:es.toList.any (·.refKey)=false:=by
   rw[List.any_eq_false];intro y hy;obtain⟨z,t,hkey⟩:=hk y (Array.mem_toList_iff.mp hy);simp[DictEntry.refKey,hkey]
  have a':¬es.toList.any (·.refKey)=true:=by rw[a];exact Bool.false_ne_true
  rw[if_neg a'];exact congrArg some e
theorem t5.look{h:Heap}{x dx C:Addr}{mA:Str→Option Value}(I:t5 h x dx C mA):∃od,PySem.W.InstAt h x (PySem.W.instObj C dx) C (some od)∧∀name,PySem.W.lookIn name od=some (mA name):=
 let ⟨od,ho,hl⟩:=Af I.ns
 ⟨od,⟨I.obj,rfl,rfl,ho⟩,hl⟩
section
variable{prog:Program}{w:World}{A:Around}{E:Value→Shared→Prop}{s:Shared}{K:PySem.W.Frag}{x dx C f:Addr}{mA:Str→Option Value}{name:Str}{v:Value}
theorem Hi{expr:Bool}{Q:Value→Shared→Prop}(X:K.In s.heap)(I:t5 s.heap x dx C mA)(hg:PySem.W.plainGet K C name=true)(hh:PySem.W.hasDictIn K C=true)
  (ha:PySem.W.findIn K (.ref C) name=some none) (hv:mA name=some v) (hv':PySem.W.handedIn v=true) (h:Q v { s with toks:=s.toks+1 }):
  wpAny (model prog w) A (getAttr (.ref x) name expr) Q E s:=by
 obtain⟨od,J,hl⟩:=I.look;exact PySem.W.get_value X J (PySem.W.plainGet_of hg).1 (PySem.W.findObj_own hh ha rfl (by rw[hl,hv])) hv' h
theorem Fm{pl:Sem Bool}{Q:Value×List Value→Shared→Prop}(X:K.In s.heap)(I:t5 s.heap x dx C mA)(hg:PySem.W.plainGet K C name=true)
  (hf:PySem.W.findIn K (.ref C) name=some (some (.ref f))) (ht:PySem.W.isFn K (.ref f)=true) (hv:mA name=none) (h:Q (.ref f,[.ref x]) s):
  wpAny (model prog w) A (getMethod (.ref x) name pl) Q E s:=by
 obtain⟨od,J,hl⟩:=I.look;exact PySem.W.method_fn X J (PySem.W.plainGet_of hg).1 (PySem.W.plainGet_of hg).2 hf (beq_iff_eq.mp ht) (by show(PySem.W.lookIn name od).map (·.isSome)=some false;rw[hl,hv];rfl) h
theorem Gj{ns:List Str}{Q:Unit→Shared→Prop}(X:K.In s.heap)(I:t5 s.heap x dx C mA)
  (hs:PySem.W.findIn K (.ref C) "__setattr__"=some (some (.builtin "object.__setattr__"))) (hp:PySem.W.plainOver K C=true) (ht:PySem.W.takerIn K C name=some none) (hh:PySem.W.hasDictIn K C=true)
  (hw:PySem.Within mA ns) (hsz:ns.length≤sizeLine)
  (h:∀h',t5 h' x dx C (fun y=>if y=name then some v else mA y)→Heap.SameBut dx s.heap h'→Q () { s with heap:=h',toks:=s.toks+2 }):
  wpAny (model prog w) A (setAttr (.ref x) name v) Q E s:=by
 obtain⟨od,J,hl⟩:=I.look
 refine PySem.W.set_plain X J hs (PySem.W.osa_open (s:={ s with toks:=s.toks+1 }) (r:=none) X J hp ht fun b=>?_)
 obtain⟨cd,hc,hd'⟩:=PySem.W.any_some hh;have hx:s.heap.get? x=some ⟨.ref C,some dx,.plain,#[]⟩:=I.obj
 refine wpAny_bind (wpAny_pure (wpAny_bind (wpAny_bind (wpAny_loadPart hx (wpAny_bind (PySem.W.Looks.here (s:={ s with toks:=s.toks+1 }) (PySem.W.looks_clsIn X hc) ?_))))))
 rw[hd'];refine wpAny_pure (a:=some dx) (wpAny_bind (wpAny_pure (wpAny_bind ?_)))
 refine wpAny_nsSet1 (s:={ s with toks:=s.toks+1 }) I.ns fun h' hn2 hs2=>?_
 obtain⟨oD,esD,epD,hoD,hdD,hcD⟩:=hn2.count (PySem.Within.cons name v hw);refine wpAny_bind (wpAny_lookBehind hoD (by rw[hdD];exact pastItsLine_dict (Nat.le_trans hcD (by rw[List.length_cons];omega))) ?_);exact wpAny_pure (h _ ⟨(hs2.2 _ (Ne.symm I.ne)).trans I.obj,hn2,I.ne⟩ hs2)
theorem Ga{R:Result→Shared→Prop}{vs:List Value}{kw:List (Str×Value)}(X:K.In s.heap)(hm:PySem.W.makesIn K C=true)
  (hi:PySem.W.findIn K (.ref C) "__init__"=some (some (.ref f))) (hf:PySem.W.typeIn K (.ref f)=some (.type "function"))
  (h:codeAny (model prog w) (A.under (.builtin "type.__call__" ⟨.ref C::vs,kw⟩)) (.call (.ref f) ⟨.ref (s.heap.objs.size+1)::vs,kw⟩) (PySem.W.InitBack (s.heap.objs.size+1) R)
   {s with heap:=(s.heap.push PySem.W.emptyDict).push (PySem.W.instObj C s.heap.objs.size) }):
  codeAny (model prog w) A (.call (.ref C) ⟨vs,kw⟩) R s:=by
 obtain⟨hh,g,d,t,os⟩:=s;exact PySem.W.make_core (PySem.W.makes_of X hm) (PySem.W.looks_findIn X hi) (fun r8=>PySem.W.bind_fn X r8 hf) (.inl rfl) h
end
def cC(f:Str)(v:V):List (Str×V)→List (Str×V)
 |[]=>[(f,v)]
 |(g,x)::r=>if g=f then(g,v)::r else(g,x)::cC f v r
theorem k9(f g:Str)(v:V):∀fs:List (Str×V),(cC f v fs).lookup g=if g=f then some v else fs.lookup g
 |[]=>by
  show List.lookup g [(f,v)]=_
  by_cases h:g=f
  ·have hb:(g==f)=true:=beq_iff_eq.mpr h;simp only[List.lookup,hb,if_pos h]
  ·have hb:(g==f)=false:=beq_eq_false_iff_ne.mpr h;simp only[List.lookup,hb,if_neg h]
 |(k,x)::r=>by
  have ih:=k9 f g v r
  rw[show cC f v ((k,x)::r)=(if k=f then(k,v)::r else(k,x)::cC f v r) from rfl]
  by_cases hk:k=f
  ·rw[if_pos hk]
   by_cases h:g=k
   ·have hb:(g==k)=true:=beq_iff_eq.mpr h;simp only[List.lookup,hb,if_pos (h.trans hk)]
   ·have hb:(g==k)=false:=beq_eq_false_iff_ne.mpr h;simp only[List.lookup,hb,if_neg (fun e:g=f=>h (e.trans hk.symm))]
  ·rw[if_neg hk]
   by_cases h:g=k
   ·have hb:(g==k)=true:=beq_iff_eq.mpr h;simp only[List.lookup,hb,if_neg (fun e:g=f=>hk (h.symm.trans e))]
   ·have hb:(g==k)=false:=beq_eq_false_iff_ne.mpr h;simp only[List.lookup,hb];exact ih
theorem WG(f:Str)(v:V):∀fs:List (Str×V),f∈(cC f v fs).map (·.1)∧∀g,g∈fs.map (·.1)→g∈(cC f v fs).map (·.1)
 |[]=>⟨by simp[cC],fun g h=>by simp at h⟩
 |(k,x)::r=>by
  obtain⟨i1,i2⟩:=WG f v r
  rw[show cC f v ((k,x)::r)=(if k=f then(k,v)::r else(k,x)::cC f v r) from rfl]
  by_cases hk:k=f
  ·rw[if_pos hk];subst hk;exact⟨by simp,fun g h=>by simpa using h⟩
  ·rw[if_neg hk];refine⟨?_,fun g h=>?_⟩
   ·rw[List.map_cons];exact List.mem_cons_of_mem _ i1
   ·rw[List.map_cons] at h ⊢
    rcases List.mem_cons.mp h with e |e
    ·exact List.mem_cons.mpr (.inl e)
    ·exact List.mem_cons_of_mem _ (i2 g e)
theorem e8(f:Str)(v:V):∀fs:List (Str×V),(cC f v fs).length≤fs.length+1
 |[]=>by simp[cC]
 |(k,x)::r=>by
  have ih:=e8 f v r
  rw[show cC f v ((k,x)::r)=(if k=f then(k,v)::r else(k,x)::cC f v r) from rfl]
  by_cases hk:k=f
  ·rw[if_pos hk,List.length_cons,List.length_cons];omega
  ·rw[if_neg hk,List.length_cons,List.length_cons];omega
theorem KL.Ha{v:V}{o:Option Value}(r:KL (some v) o):∃u,o=some u∧dZ v u:=by
 cases o with
 |none=>exact(show False from r).elim
 |some u=>exact⟨u,rfl,r⟩
theorem KL.Ia{o:Option Value}(r:KL none o):o=none:=by
 cases o with
 |none=>rfl
 |some u=>exact(show False from r).elim
theorem Bm{v:V}{u:Value}(r:dZ v u):PySem.W.handedIn u=true:=by
 cases v with
 |non=>cases (show u=Value.none from r);rfl
 |bl b=>cases (show u=Value.bool b from r);rfl
 |int i=>obtain⟨t,e⟩:=(show ∃t,u=Value.int i t from r);cases e;rfl
 |str x=>obtain⟨t,e⟩:=(show ∃t,u=Value.str x t from r);cases e;rfl
 |byt b=>obtain⟨t,e⟩:=(show ∃t,u=Value.bytes b t from r);cases e;rfl
 |flt b=>obtain⟨t,e⟩:=(show ∃t,u=Value.float b t from r);cases e;rfl
 |ref a=>cases (show u=Value.ref a from r);rfl
 |ty n=>cases (show u=Value.type n from r);rfl
section
variable{P:Program}{w:World}{H H':Hp}{h h':Heap}{a C dx:Addr}{fs fs':List (Str×V)}
theorem Q3(hok:HOk P w H h)(e:H a=some (.ins C dx fs)):∃mA,t5 h a dx C mA∧(∀f,KL (fs.lookup f) (mA f))∧PySem.Within mA (fs.map (·.1))∧fs.length≤1000∧H dx=some (.own a):=by
 obtain⟨d,z,ne,ob,mA,n,r,q⟩:=(show iX P w H h a (.ins C dx fs) from hok a _ e);exact⟨mA,⟨ob,n,ne⟩,r,q,z,d⟩
end
structure Cls(K:PySem.W.Frag)(C:Addr):Prop where
 pg:PySem.W.plainGet K C Str.empty=true
 hd:PySem.W.hasDictIn K C=true
 po:PySem.W.plainOver K C=true
 sa:PySem.W.findIn K (.ref C) "__setattr__"=some (some (.builtin "object.__setattr__"))
theorem Cls.get{K:PySem.W.Frag}{C:Addr}(c:Cls K C)(f:Str):PySem.W.plainGet K C f=true:=c.pg
def bY(K:PySem.W.Frag)(C:Addr)(f:Str):Prop:=PySem.W.findIn K (.ref C) f=some none
theorem bY.taker{K:PySem.W.Frag}{C:Addr}{f:Str}(n:bY K C f):PySem.W.takerIn K C f=some none:=by
 unfold PySem.W.takerIn;rw[show PySem.W.findIn K (.ref C) f=some none from n];rfl
structure JL(K:PySem.W.Frag)(C:Addr)(m:Str)(f:Addr):Prop where
 at_:PySem.W.findIn K (.ref C) m=some (some (.ref f))
 fn:PySem.W.isFn K (.ref f)=true
 kp:PySem.W.keepIn K (.ref f)=true
section
variable{X:Cx}{pins:List (Addr×Obj)}{σ:St}{H:Hp}{s:Shared}{a C dx:Addr}{fs:List (Str×V)}{f:Str}{v:V}{A:Around}{E:Value→Shared→Prop}
theorem F7{b:Bool}{Q:Value→Shared→Prop}(I:Inv X pins σ H s)(e:H a=some (.ins C dx fs))(c:Cls X.K C)(n:bY X.K C f)(l:fs.lookup f=some v)
  (h:∀u s',Inv X pins σ H s'→dZ v u→Q u s'):wpAny (model X.prog X.w) A (getAttr (.ref a) f b) Q E s:=by
 obtain⟨mA,O,r,_,_,_⟩:=Q3 I.hok e;obtain⟨u,hu,ru⟩:=KL.Ha (v:=v) (o:=mA f) (by rw[←l];exact r f);exact Hi I.kIn O (c.get f) c.hd n hu (Bm ru) (h u _ (I.tok _) ru)
theorem G6{m:Str}{g:Addr}{pl:Sem Bool}{Q:Value×List Value→Shared→Prop}(I:Inv X pins σ H s)(e:H a=some (.ins C dx fs))(c:Cls X.K C)(k:JL X.K C m g)(l:fs.lookup m=none)
  (h:Q (.ref g,[.ref a]) s):wpAny (model X.prog X.w) A (getMethod (.ref a) m pl) Q E s:=by
 obtain⟨mA,O,r,_,_,_⟩:=Q3 I.hok e;have hn:mA m=none:=KL.Ia (by rw[←l];exact r m);exact Fm I.kIn O (c.get m) k.at_ k.fn hn h
theorem B6{y:V}{u:Value}{Q:Unit→Shared→Prop}(I:Inv X pins σ H s)(e:H a=some (.ins C dx fs))(c:Cls X.K C)(n:bY X.K C f)(hl:fs.length < 1000)(ry:dZ y u)
  (h:∀s',Inv X pins σ (upd H a (.ins C dx (cC f y fs))) s'→Q () s'):wpAny (model X.prog X.w) A (setAttr (.ref a) f u) Q E s:=by
 obtain⟨mA,O,r,wi,_,ho⟩:=Q3 I.hok e;have hz:(fs.map (·.1)).length≤sizeLine:=by rw[List.length_map,sizeLine_eq];omega
 refine Gj I.kIn O c.sa c.po n.taker c.hd wi hz fun h' O' sb=>h _ ?_
 have hd:∃o,h'.get? dx=some o:=let ⟨o,_,_,e',_⟩:=O'.ns;⟨o,e'⟩
 refine I.HH (x:=a) (e:=dx) (by rw[e];exact True.intro) (.inr ho) (fun b q hb z=>(sb.2 b hb).trans z) hd ?_;refine⟨by rw[bA O.ne];exact ho,?_,O.ne,O'.obj,_,O'.ns,fun g=>?_,fun g hg=>?_⟩
 ·have:=e8 f y fs;omega
 ·show KL ((cC f y fs).lookup g) (if g=f then some u else mA g)
  rw[k9]
  by_cases q:g=f
  ·rw[if_pos q,if_pos q];exact ry
  ·rw[if_neg q,if_neg q];exact r g
 ·by_cases q:g=f
  ·rw[q];exact(WG f y fs).1
  ·refine(WG f y fs).2 g (wi g fun z=>hg ?_)
   show(if g=f then some u else mA g)=none
   rw[if_neg q];exact z
theorem Inv.made(I:Inv X pins σ H s):Inv X pins σ (upd (upd H s.heap.objs.size (.own (s.heap.objs.size+1))) (s.heap.objs.size+1) (.ins C s.heap.objs.size []))
  {s with heap:=(s.heap.push PySem.W.emptyDict).push (PySem.W.instObj C s.heap.objs.size) }:=by
 have e1:(s.heap.push PySem.W.emptyDict).get? s.heap.objs.size=some PySem.W.emptyDict:=Heap.get?_push_size s.heap rfl;have e2:((s.heap.push PySem.W.emptyDict).push (PySem.W.instObj C s.heap.objs.size)).get? (s.heap.objs.size+1)=some (PySem.W.instObj C s.heap.objs.size):=by
  have:=Heap.get?_push_size (s.heap.push PySem.W.emptyDict) (o:=PySem.W.instObj C s.heap.objs.size) rfl
  rwa [Heap.size_push] at this
 have e3:(s.heap.push PySem.W.emptyDict).Ns s.heap.objs.size (fun _=>none):=⟨PySem.W.emptyDict,#[],_,e1,rfl,(fun e he=>absurd he (by simp)),fun _=>rfl⟩;have I1:=I.wN (a:=s.heap.objs.size) (o:=.own (s.heap.objs.size+1)) (h':=s.heap.push PySem.W.emptyDict) (t':=s.toks) (fun b u q=>Heap.get?_push_of_some _ q) (Nat.le_refl _) ⟨_,e1⟩;refine I1.wN (a:=s.heap.objs.size+1) (o:=.ins C s.heap.objs.size []) (t':=s.toks) (fun b u q=>Heap.get?_push_of_some _ q) (Nat.le_of_eq (Heap.size_push _ _)) ?_;have ne:s.heap.objs.size≠s.heap.objs.size+1:=Nat.ne_of_lt (Nat.lt_succ_self _);refine⟨by rw[bA ne,aH],Nat.zero_le _,ne,e2,fun _=>none,(Heap.Ns1.of_empty e3).at fun o q=>Heap.get?_push_of_some _ q,fun _=>True.intro,fun y hy=>absurd rfl hy⟩
theorem Gg{prog:Program}{w:World}{env:Env}{e:Expr}{f:Str}{pos:Pos}{s:Shared}{Q:Value→Shared→Prop}(hb:attributeBase e f env (eval e env)=eval e env)
  (h:wpAny (model prog w) A (eval e env) (fun o s₁=>wpAny (model prog w) A (getAttr o f true) Q E s₁) E s):wpAny (model prog w) A (eval (.Attribute e f pos) env) Q E s:=
 Attribute_any_ h (by rw[arm_eval_Attribute,hb])
end
def lS(K:PySem.W.Frag)(ta:TE)(f:Str):TE:=fun σ H Q=>ta σ H fun x H1=>∃a C dx fs v,x=.ref a∧H1 a=some (.ins C dx fs)∧Cls K C∧bY K C f∧fs.lookup f=some v∧Q v H1
def MS(K:PySem.W.Frag)(ta tv:TE)(f:Str):TS:=fun D σ H=>tv σ H fun y H1=>ta σ H1 fun x H2=>∃a C dx fs,x=.ref a∧H2 a=some (.ins C dx fs)∧Cls K C∧bY K C f∧fs.length < 1000∧
 D.nx σ (upd H2 a (.ins C dx (cC f y fs)))
def InOp(X:Cx)(op:Operator)(rd:V→V→Hp→VK→Prop):Prop:=
 ∀(pins:List (Addr×Obj)) (s:Shared) (σ:St) (H:Hp) (x y:V) (u v:Value) (Q:VK),Inv X pins σ H s→dZ x u→dZ y v→rd x y H Q→wpAny (model X.prog X.w) X.A (inplaceOp op u v) (EP X pins σ Q) X.xe s
def ZM(K:PySem.W.Frag)(ta tv:TE)(rd:V→V→Hp→VK→Prop)(f:Str):TS:=fun D σ H=>ta σ H fun x H1=>∃a C dx fs v,x=.ref a∧H1 a=some (.ins C dx fs)∧Cls K C∧bY K C f∧fs.lookup f=some v∧
 tv σ H1 fun y H2=>rd v y H2 fun z H3=>∃dx' fs',H3 a=some (.ins C dx' fs')∧fs'.length < 1000∧D.nx σ (upd H3 a (.ins C dx' (cC f z fs')))
section
variable{X:Cx}{o e value:Expr}{f:Str}{pos pos' tpos:Pos}{ta tv:TE}
theorem aI(he:PE X e ta)(hb:attributeBase e f X.env (eval e X.env)=eval e X.env):PE X (.Attribute e f pos) (lS X.K ta f):=by
 intro pins s σ H Q I h;refine Gg hb (thn (he pins s σ H _ I h) fun u s1 ⟨x,H1,I1,rx,a,C,dx,fs,v,ex,ea,c,n,l,q⟩=>?_);subst ex;obtain rfl:u=Value.ref a:=rx;exact F7 I1 ea c n l fun u' s2 I2 ru=>⟨v,H1,I2,ru,q⟩
theorem bP(ha:PE X o ta)(hv:PE X value tv)(hs:swapsWith value (some (.Attribute o f pos')) pos.line X.env=pure false):PS X (.Assign [.Attribute o f pos'] value pos) (MS X.K ta tv f):=by
 intro pins s σ H D I h;refine plainObj_wpAny_Assign_Attribute (thn (hv pins s σ H _ I h) fun u s1 ⟨y,H1,I1,ry,q⟩=>thn (ha pins s1 σ H1 _ I1 q) fun ov s2 ⟨x,H2,I2,rx,a,C,dx,fs,ex,ea,c,n,l,q2⟩=>?_) hs;subst ex;obtain rfl:ov=Value.ref a:=rx;exact B6 I2 ea c n l ry fun s3 I3=>⟨σ,_,I3,q2⟩
theorem fT{op:Operator}{rd:V→V→Hp→VK→Prop}(ha:PE X o ta)(hv:PE X value tv)(hop:InOp X op rd):PS X (.AugAssign (.Attribute o f tpos) op value pos) (ZM X.K ta tv rd f):=by
 intro pins s σ H D I h;refine wpAny_AugAssign_AttributeAny (thn (ha pins s σ H _ I h) fun ov s1 ⟨x,H1,I1,rx,a,C,dx,fs,v,ex,ea,c,n,l,q⟩=>?_);subst ex;obtain rfl:ov=Value.ref a:=rx;refine F7 I1 ea c n l fun u s2 I2 ru=>thn (hv pins s2 σ H1 _ I2 q) fun w3 s3 ⟨y,H2,I3,ry,q3⟩=>thn (hop pins s3 σ H2 v y u w3 _ I3 ru ry q3) fun w4 s4 ⟨z,H3,I4,rz,dx',fs',ea',l',q4⟩=>?_;exact B6 I4 ea' c n l' rz fun s5 I5=>⟨σ,_,I5,q4⟩
def rAdd:V→V→Hp→VK→Prop:=fun x y H Q=>∃i j,x=.int i∧y=.int j∧Q (.int (i+j)) H
def rSub:V→V→Hp→VK→Prop:=fun x y H Q=>∃i j,x=.int i∧y=.int j∧Q (.int (i - j)) H
theorem mB:InOp X .Add rAdd:=by
 rintro pins s σ H x y u v Q I rx ry ⟨i,j,rfl,rfl,q⟩;obtain⟨t,rfl⟩:=(show ∃t,u=Value.int i t from rx);obtain⟨t',rfl⟩:=(show ∃t',v=Value.int j t' from ry);exact PyProof.Rows.iadd_int ⟨.int (i+j),H,I.tok _,⟨_,rfl⟩,q⟩
theorem jm:InOp X .Sub rSub:=by
 rintro pins s σ H x y u v Q I rx ry ⟨i,j,rfl,rfl,q⟩;obtain⟨t,rfl⟩:=(show ∃t,u=Value.int i t from rx);obtain⟨t',rfl⟩:=(show ∃t',v=Value.int j t' from ry);exact PyProof.Rows.isub_int ⟨.int (i - j),H,I.tok _,⟨_,rfl⟩,q⟩
theorem Ig{pl:Sem Bool}{m:Str}{apos:Pos}{args:List Expr}{pins:List (Addr×Obj)}{s:Shared}{σ:St}{H:Hp}{Q:Value→Shared→Prop}{te:TE}(he:PE X e te)(I:Inv X pins σ H s)
  (h:te σ H fun x H1=>∃a C dx fs g,x=.ref a∧H1 a=some (.ins C dx fs)∧Cls X.K C∧JL X.K C m g∧fs.lookup m=none∧
   ∀s1,Inv X pins σ H1 s1→wpAny (model X.prog X.w) X.A (callWith pos (.ref g) [.ref a] (backTo pos (starEach args X.env)) (backToKw pos (keywordEach [] X.env))) Q X.xe s1)
  (ht:eval (.Call (.Attribute e m apos) args [] pos) X.env=(do
   let ov ←eval e X.env
   standAt apos.atName
   let (f,first) ←holding [ov] (getMethod ov m pl)
   callWith pos f first (backTo pos (starEach args X.env)) (backToKw pos (keywordEach [] X.env)))):
  wpAny (model X.prog X.w) X.A (eval (.Call (.Attribute e m apos) args [] pos) X.env) Q X.xe s:=by
 refine PySem.W.methodCall_KW (pl:=pl) (thn (he pins s σ H _ I h) fun u s1 ⟨x,H1,I1,rx,a,C,dx,fs,g,ex,ea,c,k,l,q⟩=>?_) ht;subst ex;obtain rfl:u=Value.ref a:=rx;exact G6 I1 ea c k l (q s1 I1)
end
structure lE(k:Nat)(A:Around):Prop where
 hd:A.handled=none
 dp:A.depth+3*k+5 < recursionLimit
 un:A.units+16*k+200 < cLine
theorem lE.cF{j k:Nat}{A:Around}(r:lE k A)(h:j≤k):lE j A:=⟨r.hd,by have:=r.dp;omega,by have:=r.un;omega⟩
theorem lE.deeper{k:Nat}{A:Around}(r:lE (k+1) A)(env:Env):lE k (A.deeper env):=
 ⟨r.hd,by have:=r.dp;show A.depth+1+3*k+5 < _;omega,by have:=r.un;show A.units+3+16*k+200 < _;omega⟩
theorem xb{A:Around}{C:Addr}{us:List Value}{kw:List (Str×Value)}:(A.under (.builtin "type.__call__" ⟨.ref C::us,kw⟩)).depth=A.depth+1:=by
 first |rfl |simp[Around.under,Code.weight,Code.isCreation,Code.isGuard,Code.isCaller,Code.frames,Code.isFrame,guardIds]
theorem xw{A:Around}{C:Addr}{us:List Value}{kw:List (Str×Value)}:(A.under (.builtin "type.__call__" ⟨.ref C::us,kw⟩)).units=A.units+1:=by
 first |rfl |simp[Around.under,Code.cUnits,Code.frames,Code.isFrame]
theorem lE.vZ{k:Nat}{A:Around}(r:lE (k+1) A)(C:Addr)(us:List Value)(kw:List (Str×Value)):lE k (A.under (.builtin "type.__call__" ⟨.ref C::us,kw⟩)):=
 ⟨r.hd,by have:=r.dp;rw[xb];omega,by have:=r.un;rw[xw];omega⟩
theorem lE.depth{k:Nat}{A:Around}(r:lE k A):A.depth < recursionLimit:=by have:=r.dp;omega
def eU:TA:=fun _ H Q=>Q [] H
def dD(ta:TE)(tr:TA):TA:=fun σ H Q=>ta σ H fun x H1=>tr σ H1 fun xs H2=>Q (x::xs) H2
section
variable{X:Cx}{e:Expr}{es:List Expr}{te:TE}{t:TA}{pos:Pos}
theorem aG:PA X [] eU:=fun _ _ _ _ H Q I h=>Calls.spliced_nil ⟨[],H,I,.nil,h⟩
theorem aB(ha:PE X e te)(hr:PA X es t)(hs:starEach (e::es) X.env=(false,eval e X.env)::starEach es X.env:=by rfl):PA X (e::es) (dD te t):=by
 intro pos pins s σ H Q I h;rw[hs];show wpAny _ _ (spliced ((false,eval e X.env)::backTo pos (starEach es X.env))) _ _ s;refine Calls.spliced_cons (thn (ha pins s σ H _ I h) fun u s1 ⟨x,H1,I1,r1,q1⟩=>?_);exact thn (hr pos pins s1 σ H1 _ I1 q1) fun us s2 ⟨xs,H2,I2,r2,q2⟩=>⟨x::xs,H2,I2,.cons r1 r2,q2⟩
def tTup(t:TA):TE:=fun σ H Q=>t σ H fun xs H1=>xs.length≤sizeLine∧∀p,H1 p=none→Q (.ref p) (upd H1 p (.tup xs))
def EU(t:TA):TE:=fun σ H Q=>t σ H fun xs H1=>xs.length≤sizeLine∧∀p,H1 p=none→Q (.ref p) (upd H1 p (.lst xs))
theorem Cz{x1}(h:PA X es t):PE X (.Tuple es x1 pos) (tTup t):=by
 intro pins s σ H Q I hq;refine wpAny_Tuple_spliced (thn (h pos pins s σ H _ I hq) fun us s1 ⟨xs,H1,I1,r,z,q⟩=>⟨by rw[←r.length];exact z,?_⟩);have hf:H1 s1.heap.objs.size=none:=I1.hok.fresh (Nat.le_refl _);refine⟨.ref s1.heap.objs.size,upd H1 s1.heap.objs.size (.tup xs),I1.wN (t':=s1.toks) (fun b u e=>Heap.get?_push_of_some _ e) (Nat.le_refl _) ?_,rfl,q _ hf⟩;exact⟨z,us,r,⟨_,Heap.get?_push_size _ rfl,rfl,_,rfl⟩⟩
theorem bJ(h:PA X es t):PE X (.List es pos) (EU t):=by
 intro pins s σ H Q I hq;refine wpAny_List_spliced (thn (h pos pins s σ H _ I hq) fun us s1 ⟨xs,H1,I1,r,z,q⟩=>⟨by rw[←r.length];exact z,?_⟩);have hf:H1 s1.heap.objs.size=none:=I1.hok.fresh (Nat.le_refl _);refine⟨.ref s1.heap.objs.size,upd H1 s1.heap.objs.size (.lst xs),I1.wN (t':=s1.toks) (fun b u e=>Heap.get?_push_of_some _ e) (Nat.le_refl _) ?_,rfl,q _ hf⟩;exact⟨z,us,0,r,Heap.get?_push_size _ rfl⟩
end
abbrev Sp:=List V→Hp→VK→XK→Prop
abbrev CXT:=List Env→Hp→Shared→XK→Value→Shared→Prop
structure t8(P:Program)(w:World)(K:PySem.W.Frag)(mg:Str→Option Value)(aT:Heap)(A:Around)(bF:List Env)(s:Shared)(H:Hp):Prop where
 frames:A.frames=some bF
 mod:Mod K mg aT
 bs:∀b o,aT.get? b=some o→s.heap.get? b=some o∧H b=none
 bsz:aT.objs.size≤s.heap.objs.size
 AI:s.heap.FunFrames aT bF
 frf:∀b∈frs bF,H b=none
 hok:HOk P w H s.heap
 lR:AllBare s.gens
def CE(bF:List Env)(P:Program)(w:World)(H:Hp)(s:Shared)(Q:VK)(u:Value)(s':Shared):Prop:=
 ∃v H',s'.os=s.os∧AllBare s'.gens∧Un (frs bF) [] H H' s.heap s'.heap∧HOk P w H' s'.heap∧dZ v u∧Q v H'
def CR(CX:CXT)(bF:List Env)(P:Program)(w:World)(H:Hp)(s:Shared)(Q:VK)(E:XK)(r:Result)(s':Shared):Prop:=
 match r with
 |.ok (.ret u)=>CE bF P w H s Q u s'
 |.ok _=>False
 |.error e=>CX bF H s E e s'
structure bK(P:Program)(w:World)(K:PySem.W.Frag)(mg:Str→Option Value)(aT:Heap)(CX:CXT)(k:Nat)(f:Addr)(fd:FuncData)(ps:List Str)(sp:Sp):Prop where
 len:∀vs H Q E,sp vs H Q E→vs.length=ps.length
 run:∀(A:Around) (bF:List Env) (s:Shared) (H:Hp) (args:Args) (us:List Value) (vs:List V) (Q:VK) (E:XK),lE k A→t8 P w K mg aT A bF s H→BindsTo s fd args (ps.zip us)→cR vs us→sp vs H Q E→
  codeAny (model P w) A (.call (.ref f) args) (CR CX bF P w H s Q E) s
theorem t8.vZ{P:Program}{w:World}{K:PySem.W.Frag}{mg:Str→Option Value}{aT:Heap}{A:Around}{bF:List Env}{s:Shared}{H:Hp}(e:t8 P w K mg aT A bF s H)(C:Addr)(us:List Value)(kw:List (Str×Value)):
  t8 P w K mg aT (A.under (.builtin "type.__call__" ⟨.ref C::us,kw⟩)) bF s H:=⟨by first |exact e.frames |(simpa [Around.under,Code.envs,Code.isFrame,pushEnvs] using e.frames),e.mod,e.bs,e.bsz,e.AI,e.frf,e.hok,e.lR⟩
section
variable{X:Cx}{pins:List (Addr×Obj)}{σ:St}{H:Hp}{s s':Shared}
theorem Inv.env0(I:Inv X pins σ H s):t8 X.prog X.w X.K X.mg X.aT X.A X.mG s H:=
 ⟨I.ok.frames,I.ok.mod,I.bs,Nat.le_trans I.ok.bsz I.sz,I.mG,I.rn,I.hok,I.lR⟩
theorem Inv.after{Q:VK}{u:Value}(I:Inv X pins σ H s)(h:CE X.mG X.prog X.w H s Q u s'):EP X pins σ Q u s':=by
 obtain⟨v,H',os,lR,un,hok,r,q⟩:=h;obtain⟨hh,g,d,t,os'⟩:=s';obtain rfl:os'=s.os:=os;exact⟨v,H',I.call (h':=hh) (g':=g) (d':=d) (t':=t) (ch:=[]) un hok lR (fun b z=>absurd z (by simp)),r,q⟩
end
def jH(sp:Sp)(dvs:List V)(E:XK)(t:TA):TE:=fun σ H Q=>t σ H fun vs H1=>sp (vs++dvs) H1 Q E
def bd(C:Addr)(m:Str)(sp:Sp)(dvs:List V)(E:XK)(ta:TE)(t:TA):TE:=fun σ H Q=>ta σ H fun x H1=>∃a dx fs,x=.ref a∧H1 a=some (.ins C dx fs)∧fs.lookup m=none∧
 t σ H1 fun vs H2=>sp (x::(vs++dvs)) H2 Q E
def GV(C:Addr)(sp:Sp)(dvs:List V)(E:XK)(t:TA):TE:=fun σ H Q=>t σ H fun vs H1=>∀x dx,H1 x=none→H1 dx=none→dx≠x→
 sp (.ref x::(vs++dvs)) (upd (upd H1 dx (.own x)) x (.ins C dx [])) (fun v H2=>v=.non∧Q (.ref x) H2) E
def bM(K:PySem.W.Frag)(fd:FuncData)(ps:List Str)(ds:List Value):Prop:=
 ∀(s:Shared) (us:List Value),K.In s.heap→(us++ds).length=ps.length→BindsTo s fd ⟨us,[]⟩ (ps.zip (us++ds))
theorem bM.all{K:PySem.W.Frag}{fd:FuncData}{ps:List Str}(h:∀us:List Value,us.length=ps.length→bindArgs fd ⟨us,[]⟩=pure (ps.zip us)):bM K fd ps []:=fun s us _ hl=>by
 rw[List.append_nil] at hl ⊢;exact .of_eq (h us hl)
def CW(CX:CXT)(X:Cx)(E:XK):Prop:=∀(pins:List (Addr×Obj)) (σ:St) (H:Hp) (s:Shared) (e:Value) (s':Shared),Inv X pins σ H s→CX X.mG H s E e s'→X.xe e s'
section
variable{X:Cx}{CX:CXT}{k:Nat}{f C:Addr}{fd:FuncData}{ps:List Str}{sp:Sp}{dvs:List V}{ds:List Value}{E:XK}{x m:Str}{p pos apos:Pos}{e o:Expr}{es:List Expr}{ta:TE}{t:TA}
theorem zn{pins:List (Addr×Obj)}{σ:St}{H:Hp}{s:Shared}{Q:VK}{us:List Value}{vs:List V}(F:bK X.prog X.w X.K X.mg X.aT CX k f fd ps sp)(hr:lE k X.A)(hb:bM X.K fd ps ds)(hd:cR dvs ds)(hx:CW CX X E)
  (I:Inv X pins σ H s) (r:cR vs us) (h:sp (vs++dvs) H Q E):wpAny (model X.prog X.w) X.A (call (.ref f) us) (EP X pins σ Q) X.xe s:=by
 have r2:cR (vs++dvs) (us++ds):=r.append hd;have hl:(us++ds).length=ps.length:=by rw[←r2.length];exact F.len _ _ _ _ h
 refine wpAny_call (codeAny_mono (F.run X.A X.mG s H ⟨us,[]⟩ (us++ds) (vs++dvs) Q E hr I.env0 (hb s us I.kIn hl) r2 h) fun r s' hq=>?_)
 cases r with
 |error e=>exact hx pins σ H s e s' I hq
 |ok fl=>
  cases fl with
  |ret u=>exact I.after hq
  |next=>exact False.elim hq
  |brk=>exact False.elim hq
  |cont=>exact False.elim hq
theorem Hs(F:bK X.prog X.w X.K X.mg X.aT CX k f fd ps sp)(hr:lE k X.A)(hg:Gl X x)(hm:X.mg x=some (.ref f))(hk:PySem.W.keepIn X.K (.ref f)=true)(hb:bM X.K fd ps ds)(hd:cR dvs ds)(hx:CW CX X E)
  (ha:PA X (e::es) t) (hdb:(x==("__debug__":Str))=false:=by decide) (he:starEach (e::es) X.env=(false,eval e X.env)::starEach es X.env:=by rfl) (hpl:(backTo pos (starEach es X.env)).any (·.1)=false:=by rfl):
  PE X (.Call (.Name x p) (e::es) [] pos) (jH sp dvs E t):=by
 intro pins s σ H Q I h;refine wpAny_Call_Name_kw (ZH I hg hm ?_ hdb);refine PySem.W.callWith_K (h₀:=X.aT) I.ok.mod.kin hk (thn (ha pos pins s σ H _ I h) fun us s1 ⟨vs,H1,I1,r,q⟩=>⟨I1.kIn,?_⟩) he hpl;exact zn F hr hb hd hx I1 r q
theorem pM{pl:Sem Bool}(he:PE X o ta)(c:Cls X.K C)(hm:JL X.K C m f)(F:bK X.prog X.w X.K X.mg X.aT CX k f fd ps sp)(hr:lE k X.A)(hb:bM X.K fd ps ds)(hd:cR dvs ds)(hx:CW CX X E)
  (ht:eval (.Call (.Attribute o m apos) [] [] pos) X.env=(do
   let ov ←eval o X.env
   standAt apos.atName
   let (f,first) ←holding [ov] (getMethod ov m pl)
   callWith pos f first (backTo pos (starEach [] X.env)) (backToKw pos (keywordEach [] X.env))):=by rfl):
  PE X (.Call (.Attribute o m apos) [] [] pos) (bd C m sp dvs E ta eU):=by
 intro pins s σ H Q I h;refine PySem.W.methodCall_KW (pl:=pl) (thn (he pins s σ H _ I h) fun u s1 ⟨x,H1,I1,rx,a,dx,fs,ex,ea,l,q⟩=>?_) ht;subst ex;obtain rfl:u=Value.ref a:=rx;refine G6 I1 ea c hm l ?_
 exact PySem.W.callWith_K0 (first:=[.ref a]) I1.kIn hm.kp (zn (us:=[.ref a]) (vs:=[.ref a]) F hr hb hd hx I1 (.cons rfl .nil) q)
structure Mk(K:PySem.W.Frag)(C f:Addr):Prop where
 makes:PySem.W.makesIn K C=true
 init:PySem.W.findIn K (.ref C) "__init__"=some (some (.ref f))
 fn:PySem.W.isFn K (.ref f)=true
 kp:PySem.W.keepIn K (.ref C)=true
theorem iq{pins:List (Addr×Obj)}{σ:St}{H:Hp}{s:Shared}{Q:VK}{us:List Value}{vs:List V}(M:Mk X.K C f)(F:bK X.prog X.w X.K X.mg X.aT CX k f fd ps sp)(hr:lE (k+1) X.A)(hb:bM X.K fd ps ds)(hd:cR dvs ds)
  (hx:CW CX X E) (I:Inv X pins σ H s) (r:cR vs us)
  (h:∀x dx,H x=none→H dx=none→dx≠x→sp (.ref x::(vs++dvs)) (upd (upd H dx (.own x)) x (.ins C dx [])) (fun v H2=>v=.non∧Q (.ref x) H2) E):
  wpAny (model X.prog X.w) X.A (call (.ref C) us) (EP X pins σ Q) X.xe s:=by
 have hq:=h (s.heap.objs.size+1) s.heap.objs.size (I.hok.fresh (Nat.le_succ _)) (I.hok.fresh (Nat.le_refl _)) (Nat.ne_of_lt (Nat.lt_succ_self _));have I2:=Inv.made (C:=C) I;have r2:cR (V.ref (s.heap.objs.size+1)::(vs++dvs)) (Value.ref (s.heap.objs.size+1)::(us++ds)):=.cons rfl (r.append hd);have hl:(Value.ref (s.heap.objs.size+1)::us++ds).length=ps.length:=by
  have e:=r2.length;rw[F.len _ _ _ _ hq] at e;exact e.symm
 refine wpAny_call (Ga (f:=f) I.kIn M.makes M.init (beq_iff_eq.mp M.fn) (codeAny_mono (F.run _ X.mG _ _ ⟨Value.ref (s.heap.objs.size+1)::us,[]⟩ (Value.ref (s.heap.objs.size+1)::(us++ds)) _ _ E (hr.vZ C us [])
  (I2.env0.vZ C us []) (hb _ (Value.ref (s.heap.objs.size+1)::us) I2.kIn hl) r2 hq) fun r s' hq'=>?_))
 cases r with
 |error e=>exact hx pins σ _ _ e s' I2 hq'
 |ok fl=>
  cases fl with
  |ret u=>
   obtain⟨v,H',I3,rv,ev,q3⟩:=I2.after hq';subst ev;exact⟨rv,⟨V.ref (s.heap.objs.size+1),H',I3,rfl,q3⟩⟩
  |next=>exact False.elim hq'
  |brk=>exact False.elim hq'
  |cont=>exact False.elim hq'
theorem hJ(M:Mk X.K C f)(F:bK X.prog X.w X.K X.mg X.aT CX k f fd ps sp)(hr:lE (k+1) X.A)(hg:Gl X x)(hm:X.mg x=some (.ref C))(hb:bM X.K fd ps ds)(hd:cR dvs ds)(hx:CW CX X E)
  (ha:PA X (e::es) t) (hdb:(x==("__debug__":Str))=false:=by decide) (he:starEach (e::es) X.env=(false,eval e X.env)::starEach es X.env:=by rfl) (hpl:(backTo pos (starEach es X.env)).any (·.1)=false:=by rfl):
  PE X (.Call (.Name x p) (e::es) [] pos) (GV C sp dvs E t):=by
 intro pins s σ H Q I h;refine wpAny_Call_Name_kw (ZH I hg hm ?_ hdb);refine PySem.W.callWith_K (h₀:=X.aT) I.ok.mod.kin M.kp (thn (ha pos pins s σ H _ I h) fun us s1 ⟨vs,H1,I1,r,q⟩=>⟨I1.kIn,?_⟩) he hpl;exact iq M F hr hb hd hx I1 r q
theorem Eu(M:Mk X.K C f)(F:bK X.prog X.w X.K X.mg X.aT CX k f fd ps sp)(hr:lE (k+1) X.A)(hg:Gl X x)(hm:X.mg x=some (.ref C))(hb:bM X.K fd ps ds)(hd:cR dvs ds)(hx:CW CX X E)
  (hdb:(x==("__debug__":Str))=false:=by decide):PE X (.Call (.Name x p) [] [] pos) (GV C sp dvs E eU):=by
 intro pins s σ H Q I h;refine wpAny_Call_Name_kw (ZH I hg hm ?_ hdb);exact PySem.W.callWith_K0 I.kIn M.kp (iq (us:=[]) M F hr hb hd hx I .nil h)
end
section
variable{X:Cx}{CX:CXT}{k:Nat}{f C:Addr}{fd:FuncData}{ps ks:List Str}{sp:Sp}{E:XK}{x m:Str}{p pos apos kpos:Pos}{e o:Expr}{es:List Expr}{kws:List Keyword}{te ta:TE}{t tk:TA}{nm:Option Str}
variable{g:List Value→List Value→List Value}{gV:List V→List V→List V}
end
structure bC(N P:List Str)(sc:Scope):Prop where
 kind:sc.kind=.function
 co:sc.isCoroutine=false
 gen:sc.isGenerator=false
 nd:N.Nodup
 pre:N.take P.length=P
 par:∀x∈P,sc.names.lookup x=some .local∨sc.names.lookup x=some .cell
 nofree:∀y∈sc.names,y.2≠.free
theorem S1{kindOf:Str→Option NameKind}{x:Str}:∀{OC:List (Str×Value)} {m:Str→Option Value},(∀v,(x,v)∉OC)→bindL kindOf OC m x=m x
 |[],_,_=>rfl
 |(n,v)::r,m,h=>by
  unfold bindL;rw[S1 fun w hw=>h w (List.mem_cons_of_mem _ hw)]
  split
  ·have :x≠n:=by rintro rfl;exact h v List.mem_cons_self
   simp[this]
  ·rfl
theorem U9{kindOf:Str→Option NameKind}{x:Str}:∀{OC:List (Str×Value)} {m:Str→Option Value},(∀v,(x,v)∉OC)→bindC kindOf OC m x=m x
 |[],_,_=>rfl
 |(n,v)::r,m,h=>by
  unfold bindC;rw[U9 fun w hw=>h w (List.mem_cons_of_mem _ hw)]
  split
  ·rfl
  ·have :x≠n:=by rintro rfl;exact h v List.mem_cons_self
   simp[this]
theorem T9{kindOf:Str→Option NameKind}{x:Str}{v:Value}:∀{P:List Str} {vs:List Value} {i:Nat} {m:Str→Option Value},P.Nodup→P[i]? =some x→vs[i]? =some v→kindOf x=some .local→
  bindL kindOf (P.zip vs) m x=some v
 |[],_,_,_,_,h,_,_=>by simp at h
 |_::_,[],_,_,_,_,h,_=>by simp at h
 |p::P,w::vs,0,m,nd,h1,h2,hk=>by
  simp at h1 h2;subst h1;subst h2;show bindL kindOf ((p,w)::P.zip vs) m p=_;unfold bindL;rw[S1 fun v hv=>(List.nodup_cons.mp nd).1 (List.of_mem_zip hv).1,if_pos hk];simp
 |p::P,w::vs,i+1,m,nd,h1,h2,hk=>by
  show bindL kindOf ((p,w)::P.zip vs) m x=_;unfold bindL;exact T9 (i:=i) (List.nodup_cons.mp nd).2 (by simpa using h1) (by simpa using h2) hk
theorem T5{kindOf:Str→Option NameKind}{x:Str}{v:Value}:∀{P:List Str} {vs:List Value} {i:Nat} {m:Str→Option Value},P.Nodup→P[i]? =some x→vs[i]? =some v→kindOf x≠some .local→
  bindC kindOf (P.zip vs) m x=some v
 |[],_,_,_,_,h,_,_=>by simp at h
 |_::_,[],_,_,_,_,h,_=>by simp at h
 |p::P,w::vs,0,m,nd,h1,h2,hk=>by
  simp at h1 h2;subst h1;subst h2;show bindC kindOf ((p,w)::P.zip vs) m p=_;unfold bindC;rw[U9 fun v hv=>(List.nodup_cons.mp nd).1 (List.of_mem_zip hv).1,if_neg hk];simp
 |p::P,w::vs,i+1,m,nd,h1,h2,hk=>by
  show bindC kindOf ((p,w)::P.zip vs) m x=_;unfold bindC;exact T5 (i:=i) (List.nodup_cons.mp nd).2 (by simpa using h1) (by simpa using h2) hk
def start(N:List Str)(vs:List V):St:=vs.map some++List.replicate (N.length - vs.length) none
def cxOf(CX:CXT)(P:Program)(w:World)(K:PySem.W.Frag)(mg:Str→Option Value)(aT:Heap)(N:List Str)(qual:Str)(scope:Scope)(f:Addr)(cd:Value)(A:Around)(bF:List Env)(s:Shared)(H:Hp)(E:XK):Cx where
 prog:=P
 w:=w
 K:=K
 mg:=mg
 aT:=aT
 A:=A.deeper (envOfC qual scope s.heap.objs.size f cd)
 N:=N
 s_0:=s
 H_0:=H
 env:=envOfC qual scope s.heap.objs.size f cd
 bF:=bF
 mG:=envOfC qual scope s.heap.objs.size f cd::bF
 ex:=[]
 uM:=true
 fn:=fun _=>true
 pn:=[]
 xe:=fun e s'=>wpAny (model P w) (A.deeper (envOfC qual scope s.heap.objs.size f cd)) (leaving (envOfC qual scope s.heap.objs.size f cd) e) (fun _ s''=>CX bF H s E e s'') (fun e' s''=>CX bF H s E e' s'') s'
theorem jc{sc:Scope}{n:Nat}{x:Str}(h:sc.names.lookup x=some .cell):∃c,(cellsFrom n sc.names []).lookup x=some c:=by
 have q:=PySem.W.cellsFrom_some sc.names n [] (.inl h);exact Option.isSome_iff_exists.mp q
theorem zu{CX:CXT}{P:Program}{w:World}{K:PySem.W.Frag}{mg:Str→Option Value}{aT:Heap}{N ps:List Str}{qual:Str}{scope:Scope}{f:Addr}{cd:Value}{A:Around}{bF:List Env}{s s1:Shared}{H:Hp}{E:XK}{us:List Value}{vs:List V}
  (S:bC N ps scope) (hd:A.handled=none) (e0:t8 P w K mg aT A bF s H) (hl:vs.length=ps.length) (r:cR vs us)
  (x:InCallC s s.heap.objs.size (bindL (envOfC qual scope s.heap.objs.size f cd).kindOf (ps.zip us) fun _=>none) (cellsFrom (s.heap.objs.size+1) scope.names []) (bindC (envOfC qual scope s.heap.objs.size f cd).kindOf (ps.zip us) fun _=>none) s1):
  Inv (cxOf CX P w K mg aT N qual scope f cd A bF s H E) [] (start N vs) H s1:=by
 have hpl:ps.length≤N.length:=by have:=congrArg List.length S.pre;rw[List.length_take] at this;omega
 obtain⟨h1,tk,rfl,hk⟩:=x.done;have noA:∀b:Addr,b∉(cxOf CX P w K mg aT N qual scope f cd A bF s H E).ex:=fun b z=>absurd (show b∈([]:List Addr) from z) (by simp);refine⟨⟨e0.mod,S.kind,rfl,rfl,Nat.le_refl _,fun y z c h1 h2=>?_,fun y hy=>?_,fun y c _ h=>?_,fun _=>hd,Around.frames_deeper e0.frames,.inr ⟨rfl,rfl⟩,fun b z=>absurd z (noA b),e0.bs,e0.bsz,fun b _ _=>noA b,fun b z=>absurd z (noA b),e0.AI,e0.frf⟩,
  rfl,e0.lR,Un.fD hk,⟨_,x.toInCall.ns,fun i y v h1 h2 h3=>?_⟩,fun y c h=>⟨_,x.cell y c h⟩,e0.hok.fresh (Nat.le_refl _),fun y c h=>?_,fun p hp=>absurd (show p∈([]:List (Addr×Obj)) from hp) (by simp),e0.hok.fD hk,?_⟩
 ·exact name_of_addr x.apart (PySem.mem_of_lookup h1) (PySem.mem_of_lookup h2)
 ·have hy:scope.names.lookup y=some .cell∨scope.names.lookup y=some .free:=hy
  rcases hy with hy |hy
  ·exact jc hy
  ·exact absurd rfl (S.nofree _ (PySem.mem_of_lookup hy))
 ·exact Nat.le_of_lt (x.above y c (PySem.mem_of_lookup h))
 ·have hi:i < vs.length:=by
   unfold start at h2
   by_cases hi:i < vs.length
   ·exact hi
   ·rw[List.getElem?_append_right (by simpa using hi)] at h2;rw[List.getElem?_replicate] at h2
    split at h2 <;> cases h2
  have ha:vs[i]? =some v:=by
   unfold start at h2;rw[List.getElem?_append_left (by simpa using hi),List.getElem?_map] at h2
   cases e:vs[i]? with
   |none=>rw[e] at h2;cases h2
   |some a=>rw[e] at h2;cases h2;rfl
  obtain⟨u,hu,rv⟩:=r.get ha;have hp:ps[i]? =some y:=by
   rw[←S.pre,List.getElem?_take_of_lt (by omega)];exact h1
  have ndP:ps.Nodup:=by rw[←S.pre];exact S.nd.sublist (List.take_sublist _ _)
  refine⟨u,rv,?_⟩
  rcases S.par y (List.mem_of_getElem? hp) with k |k
  ·exact .inl ⟨k,T9 ndP hp hu k⟩
  ·obtain⟨c,e⟩:=jc (n:=s.heap.objs.size+1) k;refine .inr ⟨.inl k,c,e,?_⟩;have q:=x.cell y c e;rw[T5 ndP hp hu (by show scope.names.lookup y≠_;rw[k];decide)] at q;exact q
 ·exact e0.hok.fresh (Nat.le_of_lt (x.above y c (PySem.mem_of_lookup h)))
 ·unfold start;show _=N.length;rw[List.length_append,List.length_map,List.length_replicate];omega
theorem bX{CX:CXT}{P:Program}{w:World}{K:PySem.W.Frag}{mg:Str→Option Value}{aT:Heap}{k:Nat}{f:Addr}{name qual:Str}{params:Arguments}{body:List Stmt}{scope:Scope}{dV kV doc pm cdv ct oc:Value}{an od:Option Addr}
  {osl:Array (Option Value)} {N ps:List Str} {sp:Sp} (lk:K.lookup f=some ⟨oc,od,.func (PySem.W.fnOf name qual params body scope dV kV doc pm an cdv ct),osl⟩) (hcd:PySem.W.codeIn K cdv qual=true) (S:bC N ps scope)
  (len:∀vs H Q E,sp vs H Q E→vs.length=ps.length)
  (hbody:∀(A:Around) (bF:List Env) (s:Shared) (H:Hp) (vs:List V) (Q:VK) (E:XK),lE k (A.deeper (envOfC qual scope s.heap.objs.size f cdv))→sp vs H Q E→
   ∃t,PSs (cxOf CX P w K mg aT N qual scope f cdv A bF s H E) body t∧t { nx:=fun _ H'=>Q .non H',rt:=Q } (start N vs) H):
  bK P w K mg aT CX (k+1) f (PySem.W.fnOf name qual params body scope dV kV doc pm an cdv ct) ps sp:=by
 refine⟨len,fun A bF s H args us vs Q E hr e0 hb r hsp=>?_⟩;have hl:=len _ _ _ _ hsp;have KX:K.In s.heap:=e0.mod.kin.keeps fun b o e=>(e0.bs b o e).1;have lim:s.heap.NoLimit:=e0.mod.nolimit.keeps fun b o e=>(e0.bs b o e).1;have hkind:∀y∈ps.zip us,scope.names.lookup y.1=some .local∨(scope.names.lookup y.1=some .cell∧((cellsFrom (s.heap.objs.size+1) scope.names []).lookup y.1).isSome=true):=fun⟨n,v⟩ hy=>by
  rcases S.par n (List.of_mem_zip hy).1 with q |q
  ·exact .inl q
  ·exact .inr ⟨q,PySem.W.cellsFrom_some _ _ _ (.inl q)⟩
 refine codeAny_call_function hr.depth (KX _ _ lk) rfl S.co S.gen rfl (PySem.W.codeRec_of KX hcd) (hb _ _ _ _ ?_);refine wpAny_newFunctionEnv_cells S.kind hkind fun env he s1 x=>?_;subst he;refine⟨lim.keeps x.toInCall.keep,codeAny_func ?_⟩;obtain⟨t,ht,hq⟩:=hbody A bF s H vs Q E (hr.deeper _) hsp;have I:Inv (cxOf CX P w K mg aT N qual scope f cdv A bF s H E) [] (start N vs) H s1:=zu S hr.hd e0 hl r x;refine wpAny_mono (ht [] s1 (start N vs) H _ I hq) (fun fl s' hs=>?_) fun e s' hs=>hs;have fin:∀{σ':St} {H':Hp} {v:V} {u:Value},Inv (cxOf CX P w K mg aT N qual scope f cdv A bF s H E) [] σ' H' s'→dZ v u→Q v H'→CE bF P w H s Q u s':=
  fun {σ' H' v u} J rv q=>⟨v,H',J.os,J.lR,J.aT,J.hok,rv,q⟩
 cases fl with
 |ret u=>
  obtain⟨v,σ',H',J,rv,q⟩:=hs;exact fin J rv q
 |next=>
  obtain⟨σ',H',J,q⟩:=hs;exact fin (v:=V.non) (u:=Value.none) J rfl q
 |brk=>
  obtain⟨_,_,_,q⟩:=hs;exact False.elim q
 |cont=>
  obtain⟨_,_,_,q⟩:=hs;exact False.elim q
section
variable{X:Cx}{x:Str}{p pos:Pos}{e:Expr}{es:List Expr}{t:TA}{id T:String}{r:List V→Hp→VK→Prop}
def tCB(r:List V→Hp→VK→Prop)(t:TA):TE:=fun σ H Q=>t σ H fun vs H1=>r vs H1 Q
theorem bW(hc:tJ X (.builtin id) r)(hg:Gl X x)(hm:X.mg x=none)(hv:bootBuiltins x=some (.builtin id))(ha:PA X (e::es) t)(hn:x≠"__name__":=by decide)(hdb:(x==("__debug__":Str))=false:=by decide)
  (he:starEach (e::es) X.env=(false,eval e X.env)::starEach es X.env:=by rfl) (hpl:(backTo pos (starEach es X.env)).any (·.1)=false:=by rfl):PE X (.Call (.Name x p) (e::es) [] pos) (tCB r t):=by
 intro pins s σ H Q I h;refine wpAny_Call_Name_kw (US I hg hm hv ?_ hn hdb);exact PyProof.Rows.callWith_builtin1 (thn (ha pos pins s σ H _ I h) fun us s1 ⟨vs,H1,I1,r1,q1⟩=>hc pins s1 σ H1 vs us Q I1 r1 q1) he hpl
theorem mS(hc:tJ X (.type T) r)(hg:Gl X x)(hm:X.mg x=none)(hv:bootBuiltins x=some (.type T))(ha:PA X (e::es) t)(hn:x≠"__name__":=by decide)(hdb:(x==("__debug__":Str))=false:=by decide)
  (he:starEach (e::es) X.env=(false,eval e X.env)::starEach es X.env:=by rfl) (hpl:(backTo pos (starEach es X.env)).any (·.1)=false:=by rfl):PE X (.Call (.Name x p) (e::es) [] pos) (tCB r t):=by
 intro pins s σ H Q I h;refine wpAny_Call_Name_kw (US I hg hm hv ?_ hn hdb);exact PyProof.Rows.callWith_type1 (thn (ha pos pins s σ H _ I h) fun us s1 ⟨vs,H1,I1,r1,q1⟩=>hc pins s1 σ H1 vs us Q I1 r1 q1) he hpl
end
end L2
namespace HT
open PySem PyProof.Rows
section
open PySem.SeqAt
open PySem.AutoSeq1 (wpAny_loadPart')
open PySem.MeetsSeq PySem.MeetsSeq2 PySem.MeetsSeq3
end
section
variable{prog:Program}{w:World}{A:Around}{E:Value→Shared→Prop}{s:Shared}
def sIx(n d:Nat):Option Int→Nat
 |none=>d
 |some v=>if v < 0 then(v+(n:Int)).toNat else min v.toNat n
theorem qp(n d k:Nat):sIx n d (some (k:Int))=min k n:=by
 show(if (k:Int) < 0 then((k:Int)+(n:Int)).toNat else min (k:Int).toNat n)=min k n
 rw[if_neg (by omega),Int.toNat_natCast]
end
end HT
namespace L2
open PySem PySem.Spec PyProof.Rows
abbrev TO:=St→Hp→(Option Int→Hp→Prop)→Prop
def PO(X:Cx)(e:Option Expr)(t:TO):Prop:=
 ∀(pins:List (Addr×Obj)) (s:Shared) (σ:St) (H:Hp) (Q:Option Int→Hp→Prop),Inv X pins σ H s→t σ H Q→
  wpAny (model X.prog X.w) X.A (evalPart e X.env) (fun u s'=>∃o H',Inv X pins σ H' s'∧IsPart u o∧Q o H') X.xe s
def uf(t:TE):TO:=fun σ H Q=>t σ H fun x H1=>∃i,x=.int i∧Q (some i) H1
section
variable{X:Cx}{e:Expr}{te:TE}{lo hi:Option Expr}{tl th:TO}{pos p2:Pos}
theorem ql(h:PE X e te):PO X (some e) (uf te):=by
 intro pins s σ H Q I hw;rw[evalPart_some];refine thn (h pins s σ H _ I hw) fun u s1 ⟨x,H1,I1,r1,q1⟩=>?_;obtain⟨i,rfl,q⟩:=q1;obtain⟨t,rfl⟩:=r1;exact⟨some i,H1,I1,.int i t,q⟩
def SlR(X:Cx)(r:V→Option Int→Option Int→Hp→VK→Prop):Prop:=
 ∀(pins:List (Addr×Obj)) (s:Shared) (σ:St) (H:Hp) (x:V) (v vl vu:Value) (lo hi:Option Int) (sl:Addr) (Q:VK),Inv X pins σ H s→dZ x v→s.heap.IsSliceOf sl vl vu .none→IsPart vl lo→IsPart vu hi→r x lo hi H Q→
  ∃T id,typeLookup (.type T) "__getitem__"=pure (some (.builtin id))∧s.TypeIs v T∧wpAny (model X.prog X.w) X.A (getItem v (.ref sl)) (EP X pins σ Q) X.xe s
def tSl(r:V→Option Int→Option Int→Hp→VK→Prop)(te:TE)(tl th:TO):TE:=fun σ H Q=>te σ H fun x H1=>tl σ H1 fun l H2=>th σ H2 fun u H3=>r x l u H3 Q
theorem Fh{r:V→Option Int→Option Int→Hp→VK→Prop}(hr:SlR X r)(he:PE X e te)(hl:PO X lo tl)(hu:PO X hi th):PE X (.Subscript e (.Slice lo hi none p2) pos) (tSl r te tl th):=by
 intro pins s σ H Q I h;refine Subscript_ (thn (he pins s σ H _ I h) fun v s1 ⟨x,H1,I1,r1,q1⟩=>?_);refine wpAny_Slice (thn (hl pins s1 σ H1 _ I1 q1) fun vl s2 ⟨l,H2,I2,pl,q2⟩=>thn (hu pins s2 σ H2 _ I2 q2) fun vu s3 ⟨u,H3,I3,pu,q3⟩=>?_);rw[evalPart_none];refine wpAny_pure ?_
 have I4:Inv X pins σ H3 { s3 with heap:=s3.heap.push { cls:=.type "slice",data:=.fields #[vl,vu,.none] } }:=I3.fD (t':=s3.toks) fun b ob q=>Heap.get?_push_of_some _ q
 obtain⟨T,id,hT,ht,hg⟩:=hr pins { s3 with heap:=s3.heap.push { cls:=.type "slice",data:=.fields #[vl,vu,.none] } } σ H3 x v vl vu l u s3.heap.objs.size Q I4 r1 (Heap.IsSliceOf.new ..) pl pu q3
 show wpAny (model X.prog X.w) X.A (subscriptTail e (.Slice lo hi none p2) v (.ref s3.heap.objs.size)) (EP X pins σ Q) X.xe { s3 with heap:=s3.heap.push { cls:=.type "slice",data:=.fields #[vl,vu,.none] } }
 exact tail_any (ops:=[.ref s3.heap.objs.size,v]) ht hT hg (by with_unfolding_all rfl)
def UN(xs:List V)(lo hi:Option Int):List V:=(xs.drop (HT.sIx xs.length 0 lo)).take (HT.sIx xs.length xs.length hi - HT.sIx xs.length 0 lo)
theorem nc(xs:List V)(lo hi:Option Int):(UN xs lo hi).length≤xs.length:=by
 unfold UN;rw[List.length_take,List.length_drop];omega
end
def ixN(n:Nat)(i:Int):Option Nat:=if 0≤i then(if i < n then some i.toNat else none) else if -(n:Int)≤i then some (i+n).toNat else none
def atI{α:Type}(xs:List α)(i:Int):Option α:=(ixN xs.length i).bind fun j=>xs[j]?
theorem qy{n:Nat}{i:Int}{j:Nat}(h:ixN n i=some j):seqIndex? i n=some j∧j < n∧ -(n:Int)≤i∧i < n:=by
 unfold ixN at h
 by_cases h0:0≤i
 ·rw[if_pos h0] at h
  by_cases h1:i < n
  ·rw[if_pos h1] at h;have e:i.toNat=j:=Option.some.inj h;exact⟨by rw[seqIndex_of h0 h1,e],by omega,by omega,h1⟩
  ·rw[if_neg h1] at h;cases h
 ·rw[if_neg h0] at h
  by_cases h1: -(n:Int)≤i
  ·rw[if_pos h1] at h;have e:(i+n).toNat=j:=Option.some.inj h;exact⟨by rw[seqIndex_neg (by omega) h1,e],by omega,h1,by omega⟩
  ·rw[if_neg h1] at h;cases h
theorem rf{α:Type}{xs:List α}{i:Int}{v:α}(h:atI xs i=some v):∃j,seqIndex? i xs.length=some j∧xs[j]? =some v∧j < xs.length∧ -(xs.length:Int)≤i∧i < xs.length:=by
 unfold atI at h
 cases e:ixN xs.length i with
 |none=>rw[e] at h;cases h
 |some j=>
  rw[e] at h;obtain⟨h1,h2,h3,h4⟩:=qy e;exact⟨j,h1,h,h2,h3,h4⟩
theorem oJ{α:Type}{xs:List α}{j:Nat}{v:α}(h:xs[j]? =some v):atI xs (j:Int)=some v:=by
 have hj:j < xs.length:=(List.getElem?_eq_some_iff.mp h).1;have e:ixN xs.length (j:Int)=some j:=by
  unfold ixN;rw[if_pos (by omega),if_pos (by omega)];simp
 unfold atI;rw[e];exact h
def Gm(b:Expr):Prop:=∀o i,subscripted b false o i=operate [o,i] (getItem o i)
def IxR(X:Cx)(r:R2):Prop:=
 ∀(value slice:Expr) (pins:List (Addr×Obj)) (s:Shared) (σ:St) (H:Hp) (x y:V) (v u:Value) (Q:VK),Inv X pins σ H s→dZ x v→dZ y u→r x y H Q→
  subscripted slice false v u=operate [v,u] (getItem v u)→wpAny (model X.prog X.w) X.A (subscriptTail value slice v u) (EP X pins σ Q) X.xe s
def MtR(X:Cx)(id:String)(r:V→List V→Hp→VK→Prop):Prop:=
 ∀(pins:List (Addr×Obj)) (s:Shared) (σ:St) (H:Hp) (x:V) (xs:List V) (v:Value) (us:List Value) (Q:VK),Inv X pins σ H s→dZ x v→cR xs us→r x xs H Q→
  wpAny (model X.prog X.w) X.A (call (.builtin id) (v::us)) (EP X pins σ Q) X.xe s
section
variable{X:Cx}{a b:Expr}{ta tb:TE}{pos:Pos}
theorem cT{r:R2}(hr:IxR X r)(ha:PE X a ta)(hb:PE X b tb)(hs:Gm b):PE X (.Subscript a b pos) (tOp r ta tb):=by
 intro pins s σ H Q I h;exact Subscript_ (binT ha hb I h fun v u s2 x y H2 I2 rx ry q=>hr a b pins s2 σ H2 x y v u Q I2 rx ry q (hs _ _))
def rIxL(K:PySem.W.Frag):R2:=fun x y H Q=>∃p xs i v,x=.ref p∧y=.int i∧SqL K H p xs∧atI xs i=some v∧Q v H
def rIxT(K:PySem.W.Frag):R2:=fun x y H Q=>∃p xs i v,x=.ref p∧y=.int i∧SqT K H p xs∧atI xs i=some v∧Q v H
theorem bV:IxR X (rIxL X.K):=by
 intro value slice pins s σ H x y v u Q I rx ry h hs;obtain⟨p,xs,i,z,rfl,rfl,hq,he,q⟩:=h;cases rx;obtain⟨t,rfl⟩:=ry;obtain⟨its,r,pl,hz⟩:=I.list hq;obtain⟨j,h1,h2,h3,h4,h5⟩:=rf he;obtain⟨w,ew,rw'⟩:=r.get h2;have hl:=r.length;have hn:=G3;have fin:EP X pins σ Q w s:=⟨z,H,I,rw',q⟩
 by_cases h0:0≤i
 ·have hj:i.toNat=j:=by
   rw[seqIndex_of h0 h5] at h1;exact Option.some.inj h1
  exact item_listR pl.isList h0 (by omega) (by rw[hj];simpa using ew) fin hs
 ·have hj:(i+(its.toArray.size:Int)).toNat=j:=by
   rw[seqIndex_neg (by omega) h4] at h1;rw[List.size_toArray,←hl];exact Option.some.inj h1
  exact subscriptTail_builtinR (x:=w) pl.isList.typeIs slot_list_getitem.lookup
   (wpAny_getItem_list_neg (Q:=fun r s'=>r=w∧EP X pins σ Q r s') pl.isList (by omega) (by rw[List.size_toArray] <;> omega) (by omega) (by rw[hj];simpa using ew) ⟨rfl,fin⟩) hs
theorem ix_tup:IxR X (rIxT X.K):=by
 intro value slice pins s σ H x y v u Q I rx ry h hs;obtain⟨p,xs,i,z,rfl,rfl,hq,he,q⟩:=h;cases rx;obtain⟨t,rfl⟩:=ry;obtain⟨its,r,pl,hz⟩:=I.tuple hq;obtain⟨j,h1,h2,h3,h4,h5⟩:=rf he;obtain⟨w,ew,rw'⟩:=r.get h2;have hl:=r.length;have hn:=G3;have fin:EP X pins σ Q w s:=⟨z,H,I,rw',q⟩;exact subscriptTail_builtinR (x:=w) pl.typeIs slot_tuple_getitem.lookup
  (getItem_tuple (j:=j) (Q:=fun r s'=>r=w∧EP X pins σ Q r s') pl (by omega) (by omega) (by rw[List.size_toArray,←hl];exact h1) (by simpa using ew) ⟨rfl,fin⟩) hs
theorem yr(its:List Value)(n j:Nat)(u:Value):Obj.mapSeq (·.setIfInBounds j u) { cls:=.type "list",data:=.seq its.toArray n }={ cls:=.type "list",data:=.seq (its.set j u).toArray n }:=by
 simp[Obj.mapSeq]
theorem Inv.lst{pins:List (Addr×Obj)}{σ:St}{H:Hp}{s:Shared}{p:Addr}{xs:List V}(I:Inv X pins σ H s)(h:H p=some (.lst xs)):
  ∃(its:List Value) (n:Nat),cR xs its∧s.heap.get? p=some { cls:=.type "list",data:=.seq its.toArray n }∧xs.length≤sizeLine:=by
 obtain⟨z,its,n,r,e⟩:=I.hok p _ h;exact⟨its,n,r,e,z⟩
theorem Inv.lstUpd{pins:List (Addr×Obj)}{σ:St}{H:Hp}{s:Shared}{p:Addr}{xs ys:List V}{its its':List Value}{n n':Nat}{f:Obj→Obj}(I:Inv X pins σ H s)(h:H p=some (.lst xs))
  (ho:s.heap.get? p=some { cls:=.type "list",data:=.seq its.toArray n }) (hf:f { cls:=.type "list",data:=.seq its.toArray n }={ cls:=.type "list",data:=.seq its'.toArray n' }) (r:cR ys its') (hz:ys.length≤sizeLine) (t:Nat):
  Inv X pins σ (upd H p (.lst ys)) { s with heap:=s.heap.update p f,toks:=t }:=by
 have e:(s.heap.update p f).get? p=some { cls:=.type "list",data:=.seq its'.toArray n' }:=by
  rw[Heap.get?_update_self f ho (by rw[hf] <;> rfl),hf]
 refine I.HH (x:=p) (e:=p) (by rw[h];trivial) (.inl rfl) (fun b u hb q=>(Heap.get?_update_other _ _ (Ne.symm hb)).trans q) ⟨_,e⟩ ?_;exact⟨hz,its',n',r,e⟩
def ya:V→V→V→Hp→(Hp→Prop)→Prop:=fun o i v H Q=>∃p xs k j,o=.ref p∧i=.int k∧H p=some (.lst xs)∧ixN xs.length k=some j∧Q (upd H p (.lst (xs.set j v)))
theorem DB:PSet X ya:=by
 intro pins s σ H o i v ov iv u Q I ro ri rv h;obtain⟨p,xs,k,j,rfl,rfl,hp,hj,q⟩:=h;cases ro;obtain⟨t,rfl⟩:=ri;obtain⟨its,n,r,ho,hz⟩:=I.lst hp;obtain⟨h1,h2,h3,h4⟩:=qy hj;have hl:=r.length;have hn:=G3
 have I':Inv X pins σ (upd H p (.lst (xs.set j v))) { s with heap:=s.heap.update p (Obj.mapSeq (·.setIfInBounds j u)) }:=
  I.lstUpd hp ho (yr its n j u) (r.set rv j) (by rw[List.length_set];exact hz) s.toks
 by_cases h0:0≤k
 ·have hk:k.toNat=j:=by
   rw[seqIndex_of h0 h4] at h1;exact Option.some.inj h1
  exact PySem.W.ki_setAt ho h0 (by omega) (by rw[List.size_toArray,←hl];exact h4) (by rw[hk];exact⟨_,I',q⟩)
 ·have hk:(k+(its.toArray.size:Int)).toNat=j:=by
   rw[seqIndex_neg (by omega) h3] at h1;rw[List.size_toArray,←hl];exact Option.some.inj h1
  exact PySem.W.ki_setBack ho (by omega) (by rw[List.size_toArray,←hl];exact h3) (by omega) (by rw[hk];exact⟨_,I',q⟩)
theorem de(lo hi:Option Int)(n:Nat):(sliceBounds lo hi none n).1=((HT.sIx n 0 lo:Nat):Int)∧(sliceBounds lo hi none n).2.1=((HT.sIx n n hi:Nat):Int)∧(sliceBounds lo hi none n).2.2=1:=by
 refine⟨?_,?_,rfl⟩
 ·cases lo with
  |none=>simp[sliceBounds,HT.sIx]
  |some i=>
   simp only[sliceBounds,HT.sIx,Option.getD_none,show(1:Int) > 0 by decide,if_true]
   by_cases h:i < 0
   ·simp only[h,if_true] <;> omega
   ·simp only[h,if_false] <;> omega
 ·cases hi with
  |none=>simp[sliceBounds,HT.sIx]
  |some i=>
   simp only[sliceBounds,HT.sIx,Option.getD_none,show(1:Int) > 0 by decide,if_true]
   by_cases h:i < 0
   ·simp only[h,if_true] <;> omega
   ·simp only[h,if_false] <;> omega
theorem X7(its:List Value)(lo hi:Option Int):slicePick its.toArray lo hi none=((its.drop (HT.sIx its.length 0 lo)).take (HT.sIx its.length its.length hi - HT.sIx its.length 0 lo)).toArray:=by
 obtain⟨h1,h2,h3⟩:=de lo hi its.toArray.size;unfold slicePick;rw[h1,h2,h3];simp only[sliceRange_one,pick_run,List.size_toArray] <;> rfl
def rSlL(K:PySem.W.Frag):V→Option Int→Option Int→Hp→VK→Prop:=fun x lo hi H Q=>∃a xs,x=.ref a∧SqL K H a xs∧∀p,H p=none→Q (.ref p) (upd H p (.lst (UN xs lo hi)))
theorem Hy:SlR X (rSlL X.K):=by
 intro pins s σ H x v vl vu lo hi sl Q I rx hs pl pu h;obtain⟨a,xs,rfl,hx,q⟩:=h;cases rx;obtain⟨its,r,ht,hz⟩:=I.list hx;have hlen:=r.length;refine⟨"list",_,slot_list_getitem.lookup,ht.isList.typeIs,?_⟩;refine wpAny_getItem_list_slice ht.isList hs pl pu .none (by simp) ?_ (by rw[List.size_toArray] <;> omega);rw[X7,←hlen];refine⟨.ref s.heap.objs.size,_,I.wN (t':=s.toks) (o:=.lst (UN xs lo hi)) (fun b ob q=>Heap.get?_push_of_some _ q) (Nat.le_refl _) ?_,rfl,q _ (I.hok.fresh (Nat.le_refl _))⟩;exact⟨Nat.le_trans (nc xs lo hi) hz,_,0,(r.drop (HT.sIx xs.length 0 lo)).take (HT.sIx xs.length xs.length hi - HT.sIx xs.length 0 lo),Heap.get?_push_size _ rfl⟩
def GN:V→Bool
 |.non=>true
 |.bl _=>true
 |.int _=>true
 |.str _=>true
 |_=>false
def eqV:V→V→Bool
 |.non,.non=>true
 |.bl a,.bl b=>a==b
 |.bl a,.int b=>(if a then 1 else 0)==b
 |.int a,.bl b=>a==(if b then 1 else 0)
 |.int a,.int b=>a==b
 |.str a,.str b=>a==b
 |_,_=>false
theorem eqAt_V{A:Around}{s:Shared}{y x:V}{u v:Value}(ry:dZ y u)(rx:dZ x v)(fy:GN y=true)(fx:GN x=true):SeqAt.EqAt A s u v (eqV y x):=by
 cases y with
 |non=>
  cases ry
  cases x with
  |non=>cases rx;exact SeqAt.EqAt.same _
  |bl b=>cases rx;exact SeqAt.EqAt.none_bool b
  |int b=>obtain⟨t,rfl⟩:=rx;exact SeqAt.EqAt.none_int b t
  |str b=>obtain⟨t,rfl⟩:=rx;exact SeqAt.EqAt.none_str b t
  |_=>exact absurd (show false=true from fx) Bool.false_ne_true
 |bl a=>
  cases ry
  cases x with
  |non=>cases rx;exact SeqAt.EqAt.bool_none a
  |bl b=>cases rx;exact SeqAt.EqAt.bool_bool a b
  |int b=>obtain⟨t,rfl⟩:=rx;exact SeqAt.EqAt.bool_int a b t
  |str b=>obtain⟨t,rfl⟩:=rx;exact SeqAt.EqAt.bool_str a b t
  |_=>exact absurd (show false=true from fx) Bool.false_ne_true
 |int a=>
  obtain⟨t',rfl⟩:=ry
  cases x with
  |non=>cases rx;exact SeqAt.EqAt.int_none a t'
  |bl b=>cases rx;exact SeqAt.EqAt.int_bool a t' b
  |int b=>obtain⟨t,rfl⟩:=rx;exact SeqAt.EqAt.int_int a t' b t
  |str b=>obtain⟨t,rfl⟩:=rx;exact SeqAt.EqAt.int_str a t' b t
  |_=>exact absurd (show false=true from fx) Bool.false_ne_true
 |str a=>
  obtain⟨t',rfl⟩:=ry
  cases x with
  |non=>cases rx;exact SeqAt.EqAt.str_none a t'
  |bl b=>cases rx;exact SeqAt.EqAt.str_bool a t' b
  |int b=>obtain⟨t,rfl⟩:=rx;exact SeqAt.EqAt.str_int a t' b t
  |str b=>obtain⟨t,rfl⟩:=rx;exact SeqAt.EqAt.str_str a t' b t
  |_=>exact absurd (show false=true from fx) Bool.false_ne_true
 |_=>exact absurd (show false=true from fy) Bool.false_ne_true
def eqU(x:V)(u:Value):Bool:=match u with
 |.none=>eqV .non x
 |.bool b=>eqV (.bl b) x
 |.int i _=>eqV (.int i) x
 |.str z _=>eqV (.str z) x
 |_=>false
theorem zj{x y:V}{u:Value}(r:dZ y u)(f:GN y=true):eqU x u=eqV y x:=by
 cases y with
 |non=>cases r;rfl
 |bl b=>cases r;rfl
 |int i=>obtain⟨t,rfl⟩:=r;rfl
 |str z=>obtain⟨t,rfl⟩:=r;rfl
 |_=>exact absurd (show false=true from f) Bool.false_ne_true
theorem LS{x:V}:∀{xs:List V} {us:List Value},cR xs us→xs.all GN=true→us.any (eqU x)=xs.any fun y=>eqV y x
 |_,_,.nil,_=>rfl
 |y::xs,u::us,.cons r t,f=>by
  rw[List.all_cons,Bool.and_eq_true] at f;rw[List.any_cons,List.any_cons,zj r f.1,LS t f.2]
theorem DV{A:Around}{s:Shared}{x:V}{v:Value}(rx:dZ x v)(fx:GN x=true):∀{xs:List V} {us:List Value},cR xs us→xs.all GN=true→∀u∈us,SeqAt.EqAt A s u v (eqU x u)
 |_,_,.nil,_=>fun u hu=>by cases hu
 |y::xs,u::us,.cons r t,f=>fun u' hu=>by
  rw[List.all_cons,Bool.and_eq_true] at f
  rcases List.mem_cons.mp hu with rfl |hu
  ·rw[zj r f.1];exact eqAt_V r rx f.1 fx
  ·exact DV rx fx t f.2 u' hu
def inV(x:V)(xs:List V):Bool:=xs.any fun y=>eqV y x
def rIn(K:PySem.W.Frag)(neg:Bool):R2:=fun x y H Q=>∃p xs,y=.ref p∧(SqL K H p xs∨SqT K H p xs)∧GN x=true∧xs.all GN=true∧Q (.bl (if neg then !inV x xs else inV x xs)) H
theorem Ak:OpR X (compareOp .In) (rIn X.K false):=by
 intro pins s σ H x y v u Q I rx ry h;obtain⟨p,xs,rfl,hq,fx,fs,q⟩:=h;cases ry
 rcases hq with hq |hq
 ·obtain⟨its,r,pl,hz⟩:=I.list hq;refine SeqAt.in_listAt (eqU x) pl.isList (fun w hw=>DV rx fx r fs w (by simpa using hw)) ⟨.bl _,H,I,rfl,?_⟩;rw[show its.toArray.any (eqU x)=its.any (eqU x) by simp,LS r fs];exact q
 ·obtain⟨its,r,pl,hz⟩:=I.tuple hq;refine SeqAt.in_tupleAt (eqU x) pl (fun w hw=>DV rx fx r fs w (by simpa using hw)) ⟨.bl _,H,I,rfl,?_⟩;rw[show its.toArray.any (eqU x)=its.any (eqU x) by simp,LS r fs];exact q
theorem ej:OpR X (compareOp .NotIn) (rIn X.K true):=by
 intro pins s σ H x y v u Q I rx ry h;obtain⟨p,xs,rfl,hq,fx,fs,q⟩:=h;cases ry
 rcases hq with hq |hq
 ·obtain⟨its,r,pl,hz⟩:=I.list hq;refine SeqAt.notIn_listAt (eqU x) pl.isList (fun w hw=>DV rx fx r fs w (by simpa using hw)) ⟨.bl _,H,I,rfl,?_⟩;rw[show its.toArray.any (eqU x)=its.any (eqU x) by simp,LS r fs];exact q
 ·obtain⟨its,r,pl,hz⟩:=I.tuple hq;refine SeqAt.notIn_tupleAt (eqU x) pl (fun w hw=>DV rx fx r fs w (by simpa using hw)) ⟨.bl _,H,I,rfl,?_⟩;rw[show its.toArray.any (eqU x)=its.any (eqU x) by simp,LS r fs];exact q
theorem di:tJ X (.builtin "len") (fun xs H Q=>∃p ys,xs=[.ref p]∧(SqL X.K H p ys∨SqT X.K H p ys)∧Q (.int ys.length) H):=by
 intro pins s σ H xs us Q I r h;obtain⟨p,ys,rfl,hq,q⟩:=h;obtain⟨u,rfl,rx⟩:=az r;cases rx;have hn:=G3
 rcases hq with hq |hq
 ·obtain⟨its,r',pl,hz⟩:=I.list hq;have hlen:=r'.length;exact Calls.call_len_list pl.isList (by simp only[List.size_toArray] <;> omega) ⟨.int ys.length,H,I.tok _,⟨s.toks+1,by rw[List.size_toArray,hlen]⟩,q⟩
 ·obtain⟨its,r',pl,hz⟩:=I.tuple hq;have hlen:=r'.length;exact len_tuple pl (by simp only[List.size_toArray] <;> omega) ⟨.int ys.length,H,I.tok _,⟨s.toks+1,by rw[List.size_toArray,hlen]⟩,q⟩
theorem lY:tJ X (.type "list") (fun xs H Q=>∃p ys,xs=[.ref p]∧(SqL X.K H p ys∨SqT X.K H p ys)∧∀l,H l=none→Q (.ref l) (upd H l (.lst ys))):=by
 intro pins s σ H xs us Q I r h;obtain⟨p,ys,rfl,hq,q⟩:=h;obtain⟨u,rfl,rx⟩:=az r;cases rx;have fin:∀(its:List Value),cR ys its→ys.length≤sizeLine→∀(h':Heap) (c':Nat),(∀b o',s.heap.get? b=some o'→h'.get? b=some o')→
   h'.get? s.heap.objs.size=some { cls:=.type "list",dict:=none,data:=.seq its.toArray c',slots:=#[] }→EP X pins σ Q (.ref s.heap.objs.size) { s with heap:=h' }:=fun its r' hz h' c' kp e=>
  ⟨.ref s.heap.objs.size,_,I.wN (t':=s.toks) kp (Nat.le_refl _) (show iX X.prog X.w _ h' _ (.lst ys) from⟨hz,its,c',r',e⟩),rfl,q _ (I.hok.fresh (Nat.le_refl _))⟩
 rcases hq with hq |hq
 ·obtain⟨its,r',pl,hz⟩:=I.list hq;have hlen:=r'.length;obtain⟨o,ho,hc,n,hd⟩:=pl.isList;exact call_list_seq p (.inl rfl) ho hc hd (fun h' c' kp e=>fin its r' hz h' c' kp e) (by simp only[List.size_toArray] <;> omega)
 ·obtain⟨its,r',pl,hz⟩:=I.tuple hq;have hlen:=r'.length;obtain⟨o,ho,hc,n,hd⟩:=pl;exact call_list_seq p (.inr rfl) ho hc hd (fun h' c' kp e=>fin its r' hz h' c' kp e) (by simp only[List.size_toArray] <;> omega)
def tyV(K:PySem.W.Frag)(T:String)(x:V)(H:Hp):Prop:=match x with
 |.str _=>T="str"
 |.int _=>T="int"
 |.ref p=>(T="list"∧∃xs,SqL K H p xs)∨(T="tuple"∧∃o,K.lookup p=some o∧o.cls=.type "tuple"∧o.dict=none)∨
   (T="dict"∧((∃kvs,H p=some (.dK kvs))∨False))∨(T="set"∧∃S n,H p=some (.set S n))
 |_=>False
theorem Dh{pins:List (Addr×Obj)}{σ:St}{H:Hp}{s:Shared}{T:String}{x:V}{v:Value}(I:Inv X pins σ H s)(r:dZ x v)(ty:tyV X.K T x H):
  s.TypeIs v T∧∀a,v=.ref a→∃ob,s.heap.get? a=some ob∧ob.dict=none:=by
 cases x with
 |str z=>
  obtain⟨t,rfl⟩:=r;cases (show T="str" from ty)
  exact⟨typeIs_str s z t,fun _ e=>nomatch e⟩
 |int i=>
  obtain⟨t,rfl⟩:=r;cases (show T="int" from ty)
  exact⟨typeIs_int s i t,fun _ e=>nomatch e⟩
 |ref p=>
  cases r
  rcases ty with⟨rfl,xs,hq⟩ |⟨rfl,o,hk,hc,hd⟩ |⟨rfl,hk⟩ |⟨rfl,S,n,hk⟩
  ·obtain⟨its,_,pl,_⟩:=I.list hq;refine⟨pl.isList.typeIs,fun a e=>?_⟩;cases e;obtain⟨o,n,e,c,hd,_⟩:=pl;exact⟨o,e,hd⟩
  ·refine⟨⟨o,I.kIn p o hk,hc⟩,fun a e=>?_⟩;cases e;exact⟨o,I.kIn _ o hk,hd⟩
  ·have z:∃o,s.heap.get? p=some o∧o.ExactDict:=by
    rcases hk with⟨kvs,hk⟩ |hk
    ·obtain⟨_,_,_,_,o,_,_,e,ex,_⟩:=I.hok p _ hk;exact⟨o,e,ex⟩
    ·exact hk.elim
   obtain⟨o,e,ex⟩:=z;refine⟨⟨o,e,ex.1⟩,fun a e2=>?_⟩;cases e2;exact⟨o,e,ex.2.1⟩
  ·obtain⟨o,_,_,_,e,ex,_⟩:=I.hok p _ hk;refine⟨⟨o,e,ex.1⟩,fun a e2=>?_⟩;cases e2;exact⟨o,e,ex.2.1⟩
 |_=>exact False.elim ty
def tBM0(K:PySem.W.Frag)(T:String)(r:V→List V→Hp→VK→Prop)(to:TE):TE:=fun σ H Q=>to σ H fun x H1=>tyV K T x H1∧r x [] H1 Q
def tBM(K:PySem.W.Frag)(T:String)(r:V→List V→Hp→VK→Prop)(to:TE)(t:TA):TE:=fun σ H Q=>to σ H fun x H1=>tyV K T x H1∧t σ H1 fun xs H2=>r x xs H2 Q
variable{o e:Expr}{es:List Expr}{to:TE}{t:TA}{name:Str}{apos cpos:Pos}{T id:String}{r:V→List V→Hp→VK→Prop}
theorem iy(pa:PlainAttrs T)(sS:Slot T name id)(hty:typeOf (.builtin id)=pure (.type "method_descriptor"))(hm:MtR X id r)(ho:PE X o to)
  (hbase:attributeBase o name X.env (eval o X.env)=eval o X.env:=by rfl) (hline:(apos.endLine==cpos.line)=true:=by rfl):PE X (.Call (.Attribute o name apos) [] [] cpos) (tBM0 X.K T r to):=by
 intro pins s σ H Q I h;refine wpAny_Call_method0_late hbase hline (thn (ho pins s σ H _ I h) fun v s1 ⟨x,H1,I1,r1,ty,q1⟩=>?_);obtain⟨h1,h2⟩:=Dh I1 r1 ty;exact⟨T,id,pa,sS,hty,h1,h2,Calls.callWith_builtin rfl (PySem.evalArgs_none (hm pins s1 σ H1 x [] v [] Q I1 r1 .nil q1))⟩
theorem nX(pa:PlainAttrs T)(sS:Slot T name id)(hty:typeOf (.builtin id)=pure (.type "method_descriptor"))(hm:MtR X id r)(ho:PE X o to)(ha:PA X (e::es) t)
  (hbase:attributeBase o name X.env (eval o X.env)=eval o X.env:=by rfl)
  (hfew:((backTo cpos (starEach (e::es) X.env)).all (fun x=>!x.1)&&(backToKw cpos (keywordEach [] X.env)).all (fun x=>x.1.isSome)
   &&decide ((e::es).length+([]:List Keyword).length+(if ([]:List Keyword).isEmpty then 0 else 1) < 30))=true:=by rfl)
  (hline:(apos.endLine==cpos.line)=true:=by rfl) (hs:starEach (e::es) X.env=(false,eval e X.env)::starEach es X.env:=by rfl) (hplain:(backTo cpos (starEach es X.env)).any (·.1)=false:=by rfl):
  PE X (.Call (.Attribute o name apos) (e::es) [] cpos) (tBM X.K T r to t):=by
 intro pins s σ H Q I h;refine wpAny_Call_method_late hbase hfew hline rfl (thn (ho pins s σ H _ I h) fun v s1 ⟨x,H1,I1,r1,ty,q1⟩=>?_);obtain⟨h1,h2⟩:=Dh I1 r1 ty;refine⟨T,id,pa,sS,hty,h1,h2,?_⟩;have hA:=ha cpos pins s1 σ H1 _ I1 q1;rw[hs] at hA ⊢;refine Calls.callWith_builtin (by show(false||(backTo cpos (starEach es X.env)).any (·.1))=false;rw[hplain] <;> rfl) (Calls.evalArgs_plain ?_);exact thn hA fun us s2 ⟨vs,H2,I2,r2,q2⟩=>hm pins s2 σ H2 x vs v us Q I2 r1 r2 q2
end
def MtM(X:Cx)(id:String)(r:V→List V→Hp→VK→Prop):Prop:=
 ∀(pins:List (Addr×Obj)) (s:Shared) (σ:St) (H:Hp) (x:V) (xs:List V) (v:Value) (us:List Value) (Q:VK),Inv X pins σ H s→dZ x v→cR xs us→r x xs H Q→
  wpAny (model X.prog X.w) X.A (call (.builtin id) (v::us)) (EP X pins σ Q) X.xe s
theorem cR.one:∀{x:V} {us:List Value},cR [x] us→∃u,us=[u]∧dZ x u
 |_,_,.cons r .nil=>⟨_,rfl,r⟩
theorem cR.zero:∀{us:List Value},cR [] us→us=[]
 |_,.nil=>rfl
theorem cR.dropLast{xs:List V}{us:List Value}(h:cR xs us):cR xs.dropLast us.dropLast:=by
 induction h with
 |nil=>exact .nil
 |cons r t ih=>
  cases t with
  |nil=>exact .nil
  |cons q t'=>exact .cons r ih
theorem cR.eraseIdx:∀{xs:List V} {us:List Value} (i:Nat),cR xs us→cR (xs.eraseIdx i) (us.eraseIdx i)
 |_,_,_,.nil=>.nil
 |_,_,0,.cons _ t=>t
 |_,_,i+1,.cons r t=>.cons r (cR.eraseIdx i t)
theorem wd{α:Type}(l:List α):l.eraseIdx (l.length - 1)=l.dropLast:=by
 induction l with
 |nil=>rfl
 |cons a r ih=>
  cases r with
  |nil=>rfl
  |cons b r=>
   have e:(a::b::r).length - 1=((b::r).length - 1)+1:=by
    have h1:(a::b::r).length=r.length+2:=rfl;have h2:(b::r).length=r.length+1:=rfl;omega
   rw[e,List.eraseIdx_cons_succ,ih]
   all_goals rfl
theorem T6{α:Type}:∀(l:List α) (i:Nat),(l.eraseIdx i).length≤l.length
 |[],_=>Nat.le_refl _
 |_::_,0=>Nat.le_succ _
 |_::r,i+1=>Nat.succ_le_succ (T6 r i)
section
variable{X:Cx}{pins:List (Addr×Obj)}{σ:St}{H:Hp}{s:Shared}{l b:Addr}{xs ys zs:List V}
theorem Inv.lset{its its':List Value}{n:Nat}{f:Array Value→Array Value}{t':Nat}(I:Inv X pins σ H s)(hH:H l=some (.lst xs))
  (e:s.heap.get? l=some { cls:=.type "list",data:=.seq its.toArray n }) (hf:f its.toArray=its'.toArray) (hv:cR ys its') (hz:ys.length≤sizeLine):
  Inv X pins σ (upd H l (.lst ys)) { s with heap:=s.heap.update l (Obj.mapSeq f),toks:=t' }:=by
 have q:=PySem.IsL.update e f;rw[hf] at q;refine I.HH (x:=l) (e:=l) (by rw[hH];exact trivial) (.inl rfl) (fun b' u hb hu=>(Heap.get?_update_other s.heap (Obj.mapSeq f) (Ne.symm hb)).trans hu) ⟨_,q⟩ ?_;exact⟨hz,its',_,hv,q⟩
theorem Inv.lnew{its:List Value}{t':Nat}(I:Inv X pins σ H s)(hv:cR ys its)(hz:ys.length≤sizeLine):
  Inv X pins σ (upd H s.heap.objs.size (.lst ys)) { s with heap:=s.heap.push { cls:=.type "list",data:=.seq its.toArray },toks:=t' }:=
 I.wN (fun _ _ q=>Heap.get?_push_of_some _ q) (Nat.le_refl _) ⟨hz,its,0,hv,Heap.get?_push_size _ rfl⟩
theorem Inv.fresh(I:Inv X pins σ H s):H s.heap.objs.size=none:=I.hok.fresh (Nat.le_refl _)
theorem Inv.o0(I:Inv X pins σ H s)(hH:H l=some (.lst xs)):xs.length≤sizeLine∧∃(its:List Value) (n:Nat),cR xs its∧xs.length=its.length∧s.heap.get? l=some { cls:=.type "list",data:=.seq its.toArray n }:=by
 obtain⟨z,its,n,r,e⟩:=I.hok l _ hH;exact⟨z,its,n,r,r.length,e⟩
theorem Fs{n:Nat}(h:n≤sizeLine):Builtin.List.listTooLong n=false:=by
 unfold Builtin.List.listTooLong;exact decide_eq_false (by omega)
end
section
variable{X:Cx}
def CK:V→List V→Hp→VK→Prop:=fun x vs H Q=>∃l xs y,x=.ref l∧vs=[y]∧H l=some (.lst xs)∧xs.length < sizeLine∧Q .non (upd H l (.lst (xs++[y])))
theorem iQ:MtM X "list.append" CK:=by
 intro pins s σ H x vs v us Q I rx rv h;obtain⟨l,xs,y,rfl,rfl,hH,hz,q⟩:=h;cases rx;obtain⟨u,rfl,ru⟩:=rv.one;obtain⟨z,its,n,r,hl,e⟩:=I.o0 hH;refine call_meets F.slot_list_append ⟨_,e,rfl⟩ F.entry_list_append (F.args_list_append_2 _ _) (PySem.list_append l its.toArray n u (by rw[List.size_toArray];omega)) ⟨e,?_⟩;refine⟨.non,_,I.lset (its':=its++[u]) hH e (by simp) (r.append (.cons ru .nil)) ?_,rfl,q⟩;rw[List.length_append,List.length_singleton];omega
def qu:V→List V→Hp→VK→Prop:=fun x vs H Q=>∃l b xs zs,x=.ref l∧vs=[.ref b]∧H l=some (.lst xs)∧H b=some (.lst zs)∧xs.length+zs.length≤sizeLine∧Q .non (upd H l (.lst (xs++zs)))
theorem yz:MtM X "list.extend" qu:=by
 intro pins s σ H x vs v us Q I rx rv h;obtain⟨l,b,xs,zs,rfl,rfl,hH,hB,hz,q⟩:=h;cases rx;obtain⟨u,rfl,ru⟩:=rv.one;cases ru;obtain⟨z,its,n,r,hl,e⟩:=I.o0 hH;obtain⟨z2,its2,n2,r2,hl2,e2⟩:=I.o0 hB;have hsz:its.toArray.size+its2.toArray.size≤sizeLine:=by rw[List.size_toArray,List.size_toArray];omega
 have hlong:¬(!its.toArray.isEmpty&&Builtin.List.listTooLong (its.toArray.size+its2.toArray.size))=true:=by
  rw[Fs hsz,Bool.and_false];exact Bool.false_ne_true
 refine call_meets F.slot_list_extend ⟨_,e,rfl⟩ F.entry_list_extend (F.args_list_extend_2 _ _)
  (AutoSeq1.list_extend_list_list_0 l its.toArray n b its2.toArray n2 hlong (by rw[List.size_toArray];omega) (by omega)) ⟨e,e2,?_⟩
 refine⟨.non,_,I.lset (its':=its++its2) hH e (by simp) (r.append r2) ?_,rfl,q⟩;rw[List.length_append];omega
def rPop:V→List V→Hp→VK→Prop:=fun x vs H Q=>∃l xs y,x=.ref l∧vs=[]∧H l=some (.lst xs)∧xs[xs.length - 1]? =some y∧Q y (upd H l (.lst xs.dropLast))
theorem jh:MtM X "list.pop" rPop:=by
 intro pins s σ H x vs v us Q I rx rv h;obtain⟨l,xs,y,rfl,rfl,hH,hy,q⟩:=h;cases rx;have hus:=rv.zero;subst hus;obtain⟨z,its,n,r,hl,e⟩:=I.o0 hH;obtain⟨u,hu,ru⟩:=r.get hy;have hy':its.toArray[its.toArray.size - 1]? =some u:=by
  show its.toArray[its.length - 1]? =some u;rw[←Array.getElem?_toList,←hl];exact hu
 refine call_meets F.slot_list_pop ⟨_,e,rfl⟩ F.entry_list_pop (F.args_list_pop_1 _) (MeetsSeq.list_pop_last l its.toArray n u hy' (by rw[List.size_toArray];omega)) ⟨e,?_⟩;refine⟨y,_,I.lset (its':=its.dropLast) hH e ?_ r.dropLast ?_,ru,q⟩
 ·show its.toArray.eraseIdxIfInBounds (its.toArray.size - 1)=its.dropLast.toArray;rw[List.size_toArray,List.eraseIdxIfInBounds_toArray,wd]
 ·rw[List.length_dropLast];omega
def Db:V→List V→Hp→VK→Prop:=fun x vs H Q=>∃l xs i k y,x=.ref l∧vs=[.int i]∧H l=some (.lst xs)∧ -(2 ^ 63)≤i∧i < 2 ^ 63∧seqIndex? i xs.length=some k∧xs[k]? =some y∧Q y (upd H l (.lst (xs.eraseIdx k)))
theorem Ds:MtM X "list.pop" Db:=by
 intro pins s σ H x vs v us Q I rx rv h;obtain⟨l,xs,i,k,y,rfl,rfl,hH,h1,h2,hk,hy,q⟩:=h;cases rx;obtain⟨u,rfl,ru⟩:=rv.one;obtain⟨t,rfl⟩:=ru;obtain⟨z,its,n,r,hl,e⟩:=I.o0 hH;obtain⟨w,hw,rw'⟩:=r.get hy;refine call_meets F.slot_list_pop ⟨_,e,rfl⟩ F.entry_list_pop (F.args_list_pop_2 _ _)
  (MeetsSeq.list_pop_at l its.toArray n i t k w (fitsIndex_both h1 h2) (by rw[List.size_toArray,←hl];exact hk) (by rw[←Array.getElem?_toList];exact hw) (by rw[List.size_toArray];omega)) ⟨e,?_⟩
 refine⟨y,_,I.lset (its':=its.eraseIdx k) hH e ?_ (r.eraseIdx k) ?_,rw',q⟩
 ·show its.toArray.eraseIdxIfInBounds k=(its.eraseIdx k).toArray;rw[List.eraseIdxIfInBounds_toArray]
 ·have:=T6 xs k;omega
def rCat:R2:=fun x y H Q=>∃l b xs zs,x=.ref l∧y=.ref b∧H l=some (.lst xs)∧H b=some (.lst zs)∧xs.length+zs.length≤sizeLine∧∀p,H p=none→Q (.ref p) (upd H p (.lst (xs++zs)))
theorem Bt:OpR X (binaryOp .Add) rCat:=by
 intro pins s σ H x y v u Q I rx ry h;obtain⟨l,b,xs,zs,rfl,rfl,hH,hB,hz,q⟩:=h;cases rx;cases ry;obtain⟨z,its,n,r,hl,e⟩:=I.o0 hH;obtain⟨z2,its2,n2,r2,hl2,e2⟩:=I.o0 hB;refine PySem.P.add_list e e2 ?_ (by rw[List.size_toArray,List.size_toArray];omega);have ea:its.toArray++its2.toArray=(its++its2).toArray:=by simp
 rw[ea];exact⟨.ref _,_,I.lnew (t':=s.toks) (r.append r2) (by rw[List.length_append];omega),rfl,q _ I.fresh⟩
end
section
variable{prog:Program}{w:World}{A:Around}{E:Value→Shared→Prop}{s:Shared}
end
section
variable{X:Cx}
end
theorem cR.ints:∀{ns:List Int} {us:List Value},cR (ns.map V.int) us→IntsAre us ns
 |[],us,h=>by
  rw[List.map_nil] at h;cases h;exact IntsAre.nil
 |n::ns,us,h=>by
  rw[List.map_cons] at h
  cases h with
  |cons r t=>
   obtain⟨k,rfl⟩:=r;exact IntsAre.cons n k (cR.ints t)
theorem cR.bls:∀{bs:List Bool} {us:List Value},cR (bs.map V.bl) us→us=bs.map Value.bool
 |[],us,h=>by
  rw[List.map_nil] at h;cases h;rfl
 |b::bs,us,h=>by
  rw[List.map_cons] at h
  cases h with
  |cons r t=>
   cases r;rw[cR.bls t,List.map_cons]
theorem cR.ref1{a:Addr}{us:List Value}(r:cR [V.ref a] us):us=[Value.ref a]:=by
 cases r with
 |cons r t=>
  cases t;cases r;rfl
section
variable{prog:Program}{w:World}{A:Around}{E:Value→Shared→Prop}{s:Shared}{l:Addr}{its:List Value}{ns:List Int}{Q:Value→Shared→Prop}
theorem Hw(hh:A.handled=none)(hl:s.heap.IsList l its.toArray)(hi:IntsAre its ns)
  (h:∀h' tk t',(∀b o,s.heap.get? b=some o→h'.get? b=some o)→Q (.int ns.sum t') { s with heap:=h',toks:=tk }):wpAny (model prog w) A (call (.builtin "sum") [.ref l]) Q E s:=by
 obtain⟨xs,e⟩:=hi.allInts.items;have hn:numsOf (intItems xs).toList=ns:=by rw[←e];exact hi.numsOf
 rw[nums_intItems] at hn;rw[e] at hl;refine PySem.sum_intListG hh hl fun h' tk t' hk=>?_;have:=h h' tk t' hk;rw[preSum_eq,List.take_of_length_le (by simp),hn];exact this
end
section
variable{X:Cx}
def rSum(K:PySem.W.Frag):List V→Hp→VK→Prop:=fun vs H Q=>∃(a:Addr) (ns:List Int),vs=[V.ref a]∧SqL K H a (ns.map V.int)∧Q (.int ns.sum) H
theorem LC(hc:X.uM=true):tJ X (.builtin "sum") (rSum X.K):=by
 intro pins s σ H vs us Q I r h;obtain⟨a,ns,rfl,hs,q⟩:=h;obtain⟨its,rv,hl,_⟩:=I.list hs;rw[cR.ref1 r];exact Hw (I.ok.hd hc) hl.isList rv.ints fun h' tk t' hk=>⟨.int _,H,I.fD hk,⟨_,rfl⟩,q⟩
end
theorem Fg{prog:Program}{w:World}{A:Around}{E:Value→Shared→Prop}{s:Shared}{l:Addr}{items:Array Value}{Q:Value→Shared→Prop}(hl:s.heap.IsList l items)
  (h:∀s₂:Shared,s₂={ s with heap:=s.heap.push { cls:=.type "list_iterator",data:=.fields #[.ref l,.int 0 0] } }→
   (s₂.heap.IsListIter s.heap.objs.size l 0∧s₂.heap.IsList l items)→l≠s.heap.objs.size→Q (.ref s.heap.objs.size) s₂):wpAny (model prog w) A (pyIter (.ref l)) Q E s:=by
 have hlt:l < s.heap.objs.size:=by obtain⟨_,e,_⟩:=hl;exact Heap.lt_size e
 exact wpAny_pyIter_list hl (h _ rfl ⟨⟨_,Heap.get?_push_size _ rfl,rfl,rfl⟩,hl.push _⟩ (Nat.ne_of_lt hlt))
theorem oq{prog:Program}{w:World}{A:Around}{bs:List Bool}{its:List Value}(e:its=bs.map Value.bool):
  TruthOf prog w A (fun i v=>its.toArray[i]? =some v) (fun i=>bs.getD i false):=fun i v s Q E hv hq=>by
 have hv':its[i]? =some v:=by simpa using hv
 rw[e,List.getElem?_map] at hv';obtain⟨b,hb,rfl⟩:=Option.map_eq_some_iff.mp hv';have hg:bs.getD i false=b:=by rw[List.getD_eq_getElem?_getD,hb] <;> rfl
 have hq':Q (bs.getD i false) s:=hq;rw[hg] at hq';exact wpAny_truthy_bool hq'
theorem T2:∀bs:List Bool,(List.range bs.length).any (fun i=>bs.getD i false)=bs.any id
 |[]=>rfl
 |b::bs=>by
  rw[List.length_cons,List.range_succ_eq_map,List.any_cons,List.any_map,List.any_cons,←T2 bs]
  all_goals rfl
section
variable{X:Cx}
def rAny(K:PySem.W.Frag):List V→Hp→VK→Prop:=fun vs H Q=>∃(a:Addr) (bs:List Bool),vs=[V.ref a]∧SqL K H a (bs.map V.bl)∧Q (.bl (bs.any id)) H
theorem WH(hc:X.uM=true):tJ X (.builtin "any") (rAny X.K):=by
 intro pins s σ H vs us Q I r h;obtain⟨a,bs,rfl,hs,q⟩:=h;obtain⟨its,rv,hl,_⟩:=I.list hs;rw[cR.ref1 r];have hb:=rv.bls;refine call_any_walk (Fg hl.isList fun s₂ e2 st hne=>?_);subst e2;refine⟨_,_,_,_,_,_,_,rfl,Walks.list (A:=X.A.in1) (I.ok.hd hc) _ a hne its.toArray,st,oq hb,fun h' tk hk=>?_⟩;refine⟨.bl _,H,I.fD fun b o eo=>hk b o (fun hmem=>?_) (Heap.get?_push_of_some _ eo),?_,q⟩
 ·rcases List.mem_cons.mp hmem with e1 |hmem
  ·exact absurd (e1▸Heap.lt_size eo) (Nat.lt_irrefl _)
  ·cases hmem
 ·show Value.bool _=Value.bool _;rw[←T2,hb,List.size_toArray,List.length_map]
end
mutual
inductive Dp (K:PySem.W.Frag) (H:Hp):V→PyData→Prop
 |non:Dp K H .non .none
 |bl (b:Bool):Dp K H (.bl b) (.bool b)
 |int (i:Int):Dp K H (.int i) (.int i)
 |str (x:Str):Dp K H (.str x) (.str x)
 |lst {a:Addr} {xs:List V} {ds:List PyData}:SqL K H a xs→ZB K H xs ds→Dp K H (.ref a) (.list ds)
 |tup {a:Addr} {xs:List V} {ds:List PyData}:SqT K H a xs→ZB K H xs ds→Dp K H (.ref a) (.tuple ds)
inductive ZB (K:PySem.W.Frag) (H:Hp):List V→List PyData→Prop
 |nil:ZB K H [] []
 |cons {v:V} {vs:List V} {d:PyData} {ds:List PyData}:Dp K H v d→ZB K H vs ds→ZB K H (v::vs) (d::ds)
end
section
variable{X:Cx}{pins:List (Addr×Obj)}{σ:St}{H:Hp}{s:Shared}
mutual
theorem Dp.ba(I:Inv X pins σ H s):∀(d:PyData) (v:V) (u:Value),Dp X.K H v d→dZ v u→∃as,Reads s.heap u d as
 |.none,_,_,h,r=>by
  cases h;cases r;exact⟨_,Reads.none⟩
 |.bool b,_,_,h,r=>by
  cases h;cases r;exact⟨_,Reads.bool b⟩
 |.int i,_,_,h,r=>by
  cases h;obtain⟨t,rfl⟩:=r;exact⟨_,Reads.int i t⟩
 |.str x,_,_,h,r=>by
  cases h;obtain⟨t,rfl⟩:=r;exact⟨_,Reads.str x t⟩
 |.list ds,_,_,h,r=>by
  cases h with
  |lst hs ha=>
   cases r;obtain⟨its,rv,⟨o,n,ho,hc,_,hd⟩,_⟩:=I.list hs;obtain⟨as,hr⟩:=Dp.uO I ds _ its ha rv;exact⟨_,Reads.list ho hc hd hr⟩
 |.tuple ds,_,_,h,r=>by
  cases h with
  |tup hs ha=>
   cases r;obtain⟨its,rv,⟨o,ho,hc,n,hd⟩,_⟩:=I.tuple hs;obtain⟨as,hr⟩:=Dp.uO I ds _ its ha rv;exact⟨_,Reads.tuple ho hc hd hr⟩
 |.dict _,_,_,h,_=>by cases h
theorem Dp.uO(I:Inv X pins σ H s):∀(ds:List PyData) (vs:List V) (us:List Value),ZB X.K H vs ds→cR vs us→∃as,ReadsAll s.heap us ds as
 |[],_,_,h,r=>by
  cases h;cases r;exact⟨_,ReadsAll.nil⟩
 |d::ds,_,_,h,r=>by
  cases h with
  |cons h1 h2=>
   cases r with
   |cons r1 r2=>
    obtain⟨as,q1⟩:=Dp.ba I d _ _ h1 r1;obtain⟨bs,q2⟩:=Dp.uO I ds _ _ h2 r2;exact⟨_,ReadsAll.cons q1 q2⟩
end
end
section
variable{X:Cx}
end
abbrev Cg(h:Heap)(c:Addr)(v:Option Value):Prop:=h.IsCell c v
def relS(scope sc:Scope):Scope:=
 {scope with names:=scope.names.map fun(n,k)=>if (k==.free&&sc.kind==.function&&sc.names.lookup n==some .cell) then(n,.cell) else(n,k) }
def gN(cells:List (Str×Addr)):List (Str×NameKind)→List (Str×Addr)→List (Str×Addr)
 |[],acc=>acc
 |(n,k)::r,acc=>if k==.free then gN cells r ((n,(cells.lookup n).getD 0)::acc) else gN cells r acc
theorem WI(env:Env)(f:Str×NameKind→List (Str×Addr)→Sem (ForInStep (List (Str×Addr))))
  (hf:∀n k c,f (n,k) c=if k==.free then(do let a ←cellOf env n;pure (.yield ((n,a)::c))) else pure (.yield c)):
  ∀(names:List (Str×NameKind)) (acc:List (Str×Addr)),(∀y∈names,y.2=.free→∃c,env.cells.lookup y.1=some c)→forIn names acc f=pure (gN env.cells names acc)
 |[],acc,_=>by rw[List.forIn_nil];rfl
 |(n,k)::r,acc,h=>by
  rw[List.forIn_cons,hf];have ih:=fun acc=>WI env f hf r acc fun y hy=>h y (List.mem_cons_of_mem _ hy);unfold gN
  by_cases hk:(k==NameKind.free)=true
  ·rw[if_pos hk,if_pos hk];obtain⟨c,hc⟩:=h (n,k) List.mem_cons_self (by simpa using hk);have e:cellOf env n=pure c:=by unfold cellOf;rw[hc]
   rw[e];have e2:(env.cells.lookup n).getD 0=c:=by rw[hc];rfl
   rw[e2];exact ih _
  ·rw[if_neg hk,if_neg hk];exact ih _
theorem wn{scope:Scope}{env:Env}(h:∀y∈scope.names,y.2=.free→∃c,env.cells.lookup y.1=some c):closureFor scope env=pure (gN env.cells scope.names []):=by
 simp only[closureFor];rw[WI env _ (fun n k c=>rfl) scope.names [] h];rfl
theorem OA{α:Type}:∀{l:List (Str×α)} {n:Str} {c:α},(n,c)∈l→∃c',l.lookup n=some c'
 |(k,v)::r,n,c,h=>by
  rw[List.lookup_cons]
  cases hb:n==k with
  |true=>exact⟨_,rfl⟩
  |false=>
   rcases List.mem_cons.mp h with e |h
   ·cases e;simp at hb
   ·exact OA h
theorem yT{cells:List (Str×Addr)}:∀{names:List (Str×NameKind)} {acc:List (Str×Addr)} {n:Str} {c:Addr},(n,c)∈gN cells names acc→(n,c)∈acc∨((n,.free)∈names∧c=(cells.lookup n).getD 0)
 |[],_,_,_,h=>.inl h
 |(m,k)::r,acc,n,c,h=>by
  unfold gN at h
  split at h
  ·rename_i hk;have hk:k=.free:=by simpa using hk
   rcases yT h with h |⟨h1,h2⟩
   ·rcases List.mem_cons.mp h with e |h
    ·cases e;exact .inr ⟨hk▸List.mem_cons_self,rfl⟩
    ·exact .inl h
   ·exact .inr ⟨List.mem_cons_of_mem _ h1,h2⟩
  ·rcases yT h with h |⟨h1,h2⟩
   ·exact .inl h
   ·exact .inr ⟨List.mem_cons_of_mem _ h1,h2⟩
theorem IE{cells:List (Str×Addr)}:∀{names:List (Str×NameKind)} {acc:List (Str×Addr)} {p:Str×Addr},p∈acc→p∈gN cells names acc
 |[],_,_,h=>h
 |(m,k)::r,acc,p,h=>by
  unfold gN
  split
  ·exact IE (List.mem_cons_of_mem _ h)
  ·exact IE h
theorem IB{cells:List (Str×Addr)}:∀{names:List (Str×NameKind)} {acc:List (Str×Addr)} {n:Str},(n,.free)∈names→(n,(cells.lookup n).getD 0)∈gN cells names acc
 |(m,k)::r,acc,n,h=>by
  unfold gN
  rcases List.mem_cons.mp h with e |h
  ·cases e;exact IE List.mem_cons_self
  ·split
   ·exact IB h
   ·exact IB h
theorem zB:∀{names:List (Str×NameKind)} {h:Heap} {acc:List (Str×Addr)} {x:Str} {c:Addr},(x,c)∈cellsFrom h.objs.size names acc→
  (x,c)∈acc∨((x,.cell)∈names∧h.objs.size≤c∧Cg (pushCells h names) c none)
 |[],_,_,_,_,h=>.inl h
 |(n,k)::r,h,acc,x,c,hm=>by
  unfold cellsFrom at hm;unfold pushCells
  split at hm
  ·rename_i hk;rw[if_pos hk];have hk:k=.cell:=by simpa using hk
   rw[←Heap.size_push h { cls:=.type "cell",data:=.cell none }] at hm
   rcases zB hm with hm |⟨h1,h2,h3⟩
   ·rcases List.mem_cons.mp hm with e |hm
    ·cases e;exact .inr ⟨hk▸List.mem_cons_self,Nat.le_refl _,_,pushCells_keeps r _ _ _ (Heap.get?_push_size _ rfl),rfl⟩
    ·exact .inl hm
   ·rw[Heap.size_push] at h2;exact .inr ⟨List.mem_cons_of_mem _ h1,Nat.le_of_succ_le h2,h3⟩
  ·rename_i hk;rw[if_neg hk]
   rcases zB hm with hm |⟨h1,h2,h3⟩
   ·exact .inl hm
   ·exact .inr ⟨List.mem_cons_of_mem _ h1,h2,h3⟩
theorem GK:∀{names:List (Str×NameKind)} {n:Nat} {acc:List (Str×Addr)} {p:Str×Addr},p∈acc→p∈cellsFrom n names acc
 |[],_,_,_,h=>h
 |(m,k)::r,n,acc,p,h=>by
  unfold cellsFrom
  split
  ·exact GK (List.mem_cons_of_mem _ h)
  ·exact GK h
theorem VI:∀{names:List (Str×NameKind)} {n:Nat} {acc:List (Str×Addr)} {x:Str},(x,.cell)∈names→∃c,(x,c)∈cellsFrom n names acc
 |(m,k)::r,n,acc,x,h=>by
  unfold cellsFrom
  rcases List.mem_cons.mp h with e |h
  ·cases e;exact⟨n,GK List.mem_cons_self⟩
  ·split
   ·exact VI h
   ·exact VI h
theorem UJ:∀{names:List (Str×NameKind)} {h:Heap} {acc:List (Str×Addr)} {x y:Str} {c:Addr},(∀p∈acc,p.2 < h.objs.size)→(∀x y c,(x,c)∈acc→(y,c)∈acc→x=y)→
  (x,c)∈cellsFrom h.objs.size names acc→(y,c)∈cellsFrom h.objs.size names acc→x=y
 |[],_,_,_,_,_,_,hi,h1,h2=>hi _ _ _ h1 h2
 |(n,k)::r,h,acc,x,y,c,hl,hi,h1,h2=>by
  unfold cellsFrom at h1 h2
  split at h1
  ·rename_i hk;rw[if_pos hk] at h2;rw[←Heap.size_push h { cls:=.type "cell",data:=.cell none }] at h1 h2;refine UJ (h:=h.push _) (fun p hp=>?_) (fun x y c a b=>?_) h1 h2
   ·rw[Heap.size_push]
    rcases List.mem_cons.mp hp with rfl |hp
    ·exact Nat.lt_succ_self _
    ·exact Nat.lt_succ_of_lt (hl p hp)
   ·rcases List.mem_cons.mp a with e |a <;> rcases List.mem_cons.mp b with e' |b
    ·cases e;cases e';rfl
    ·cases e;exact absurd (hl _ b) (Nat.lt_irrefl _)
    ·cases e';exact absurd (hl _ a) (Nat.lt_irrefl _)
    ·exact hi _ _ _ a b
  ·rename_i hk;rw[if_neg hk] at h2;exact UJ hl hi h1 h2
theorem jx{M:Model}{A:Around}{E:Value→Shared→Prop}{s:Shared}{scope:Scope}{globals:Addr}{closure:List (Str×Addr)}{qual:Str}{func:Option Addr}{code:Value}{around:Env}{builtins:Addr}{Q:Env→Shared→Prop}
  (h:Q (newEnv scope s.heap.objs.size globals (cellsFrom (s.heap.objs.size+1) scope.names closure) qual func code (some around) builtins)
   {s with heap:=pushCells (s.heap.push { cls:=.type "dict",data:=.dict #[] }) scope.names }):
  wpAny M A (newFunctionEnv scope globals closure [] qual func code (some around) builtins) Q E s:=by
 simp only[newFunctionEnv,Option.isSome_some,if_true];refine wpAny_bind (wpAny_alloc ?_);refine wpAny_bind (wpAny_layCells _ (fun n k c=>rfl) scope.names closure _ _ ?_)
 rw[show({ s with heap:=s.heap.push { cls:=.type "dict",data:=.dict #[] } }:Shared).heap.objs.size=s.heap.objs.size+1 from Heap.size_push ..]
 rw[List.forIn_nil];exact wpAny_bind (wpAny_pure (wpAny_pure h))
theorem JY{sc:Scope}:∀{names:List (Str×NameKind)} {x:Str} {k:NameKind},
  (names.map fun(n,k)=>if (k==NameKind.free&&sc.kind==.function&&sc.names.lookup n==some .cell) then(n,NameKind.cell) else(n,k)).lookup x=some k→
  ∃k',names.lookup x=some k'∧(k=k'∨(k'=.free∧k=.cell))
 |[],_,_,h=>by simp at h
 |(n,k₀)::r,x,k,h=>by
  have ih:=@JY sc r x k
  have h':List.lookup x ((if (k₀==NameKind.free&&sc.kind==.function&&sc.names.lookup n==some .cell)=true then(n,NameKind.cell) else(n,k₀))::(r.map _))=some k:=h
  cases hx:x==n with
  |true=>
   simp only[List.lookup_cons,hx]
   by_cases hc:(k₀==NameKind.free&&sc.kind==.function&&sc.names.lookup n==some .cell)=true
   ·rw[if_pos hc] at h';simp only[List.lookup_cons,hx] at h';cases h';simp only[Bool.and_eq_true,beq_iff_eq] at hc;exact⟨k₀,rfl,.inr ⟨hc.1.1,rfl⟩⟩
   ·rw[if_neg hc] at h';simp only[List.lookup_cons,hx] at h';cases h';exact⟨_,rfl,.inl rfl⟩
  |false=>
   simp only[List.lookup_cons,hx]
   by_cases hc:(k₀==NameKind.free&&sc.kind==.function&&sc.names.lookup n==some .cell)=true
   ·rw[if_pos hc] at h';simp only[List.lookup_cons,hx] at h';exact ih h'
   ·rw[if_neg hc] at h';simp only[List.lookup_cons,hx] at h';exact ih h'
structure K7(N:List Str)(sc scope:Scope)(own:List (Str×Nat)):Prop where
 kind:scope.kind=.function
 uniq:∀y∈scope.names,scope.names.lookup y.1=some y.2
 ix:∀p∈own,N[p.2]? =some p.1
 free:∀y∈scope.names,y.2=.free→sc.names.lookup y.1=some .cell∨sc.names.lookup y.1=some .free
 own:∀y∈scope.names,y.2=.local∨y.2=.cell→y.1∈own.map (·.1)∨y.1∉N
def hE(σ:St):List Nat→St
 |[]=>σ
 |v::vs=>(hE σ vs).set v none
theorem IF(σ:St):∀vs:List Nat,(hE σ vs).length=σ.length
 |[]=>rfl
 |v::vs=>by unfold hE;rw[List.length_set,IF σ vs]
theorem XF{σ:St}{i:Nat}{x:V}:∀{vs:List Nat},(hE σ vs)[i]? =some (some x)→σ[i]? =some (some x)∧i∉vs
 |[],h=>⟨h,by simp⟩
 |v::vs,h=>by
  unfold hE at h
  by_cases hi:v=i
  ·subst hi
   by_cases hv:v < (hE σ vs).length
   ·rw[List.getElem?_set_self hv] at h;cases h
   ·rw[List.getElem?_eq_none (by simpa using hv)] at h;cases h
  ·rw[List.getElem?_set_ne hi] at h;obtain⟨h1,h2⟩:=XF h;exact⟨h1,by simp only[List.mem_cons,not_or];exact⟨fun e=>hi e.symm,h2⟩⟩
abbrev Cx.blk(X:Cx)(s:Shared)(H:Hp)(scope:Scope)(cenv:Env)(fp:List Addr):Cx:={ X with s_0:=s,H_0:=H,env:=cenv,bF:=X.mG,ex:=fp,fn:=fun x=>scope.names.lookup x==some .cell,pn:=[],xe:=fun _ _=>False }
section
variable{X:Cx}{pins:List (Addr×Obj)}{σ:St}{H:Hp}{s:Shared}
theorem ow{scope:Scope}{own:List (Str×Nat)}{fp:List Addr}(I:Inv X pins σ H s)(ok:K7 X.N X.env.scope scope own)(hN:X.N.Nodup)(hfp:∀b∈fp,FP X pins H b∧b < s.heap.objs.size):
  Inv (X.blk s H scope (compEnvC scope (cellsFrom (s.heap.objs.size+1) scope.names (gN X.env.cells scope.names [])) s.heap.objs.size X.env) fp) [] (hE σ (own.map (·.2))) H { s with heap:=pushCells (s.heap.push { cls:=.type "dict",data:=.dict #[] }) scope.names }:=by
 have hfree:∀y∈scope.names,y.2=.free→∃c,X.env.cells.lookup y.1=some c:=fun y hy e=>by
  rcases ok.free y hy e with k |k
  ·exact I.ok.has _ (.inl k)
  ·exact I.ok.has _ (.inr k)
 generalize hcenv:compEnvC scope (cellsFrom (s.heap.objs.size+1) scope.names (gN X.env.cells scope.names [])) s.heap.objs.size X.env=cenv;have kp:∀b o,s.heap.get? b=some o→(pushCells (s.heap.push { cls:=.type "dict",data:=.dict #[] }) scope.names).get? b=some o:=fun b o e=>pushCells_keeps _ _ _ _ (Heap.get?_push_of_some _ e);have hL:cenv.locals=s.heap.objs.size:=by rw[←hcenv];rfl
 have hcl:cenv.cells=cellsFrom (s.heap.objs.size+1) scope.names (gN X.env.cells scope.names []):=by rw[←hcenv];rfl
 have hsc:cenv.scope=relS scope X.env.scope:=by rw[←hcenv];rfl
 rw[←Heap.size_push s.heap { cls:=.type "dict",data:=.dict #[] }] at hcl;have cm:∀{y c},(y,c)∈gN X.env.cells scope.names []→X.env.cells.lookup y=some c∧c < s.heap.objs.size:=fun {y c} hm=>by
  rcases yT hm with hm |⟨h1,rfl⟩
  ·cases hm
  ·obtain⟨c,hc⟩:=hfree _ h1 rfl;rw[hc];obtain⟨w,z⟩:=I.cell _ _ hc;exact⟨rfl,z.lt⟩
 have mem:∀{y c},cenv.cells.lookup y=some c→(X.env.cells.lookup y=some c∧c < s.heap.objs.size)∨(s.heap.objs.size+1≤c∧Cg (pushCells (s.heap.push { cls:=.type "dict",data:=.dict #[] }) scope.names) c none):=fun {y c} e=>by
  rw[hcl] at e
  rcases zB (PySem.mem_of_lookup e) with hm |⟨_,h2,h3⟩
  ·exact .inl (cm hm)
  ·rw[Heap.size_push] at h2;exact .inr ⟨h2,h3⟩
 have look:∀{y},scope.names.lookup y=some .free→∃c,cenv.cells.lookup y=some c∧X.env.cells.lookup y=some c:=fun {y} hl=>by
  have hy:(y,NameKind.free)∈scope.names:=PySem.mem_of_lookup hl;obtain⟨c',e'⟩:=OA (GK (names:=scope.names) (n:=(s.heap.push { cls:=.type "dict",data:=.dict #[] }).objs.size) (IB (cells:=X.env.cells) (acc:=[]) hy));rw[←hcl] at e';refine⟨c',e',?_⟩;rw[hcl] at e'
  rcases zB (PySem.mem_of_lookup e') with hm |⟨h1,_,_⟩
  ·exact(cm hm).1
  ·have:=ok.uniq _ h1;rw[hl] at this;cases this
 have okB:(X.blk s H scope cenv fp).Ok:=by
  refine⟨I.ok.mod,by show cenv.scope.kind=_;rw[hsc];exact ok.kind,by show cenv.globals=_;rw[←hcenv];exact I.ok.WJ,by show cenv.builtins=_;rw[←hcenv];exact I.ok.blt,by show s.heap.objs.size≤cenv.locals;rw[hL];exact Nat.le_refl _,
   fun y z c e1 e2=>?_,fun y hy=>?_,fun y c z e=>?_,I.ok.hd,I.ok.frames,.inl rfl,fun b hb=>⟨?_,fun y c e z=>?_⟩,I.bs,Nat.le_trans I.ok.bsz I.sz,fun b o e hb=>?_,fun b hb z=>?_,I.mG,I.rn⟩
  ·have e1:cenv.cells.lookup y=some c:=e1;have e2:cenv.cells.lookup z=some c:=e2;rw[hcl] at e1 e2;refine UJ (fun p hp=>?_) (fun y z c a b=>I.ok.inj y z c (cm a).1 (cm b).1) (PySem.mem_of_lookup e1) (PySem.mem_of_lookup e2);rw[Heap.size_push];exact Nat.lt_succ_of_lt (cm (y:=p.1) (c:=p.2) hp).2
  ·show ∃c,cenv.cells.lookup y=some c;have key:∀k,cenv.kindOf y=some k→(k=.cell∨k=.free)→∃c,cenv.cells.lookup y=some c:=fun k hk hk'=>by
    unfold Env.kindOf at hk;rw[hsc] at hk;obtain⟨k',e,r⟩:=JY hk;have :k'=.cell∨k'=.free:=by
     rcases r with rfl |⟨rfl,_⟩
     ·exact hk'
     ·exact .inr rfl
    rcases this with rfl |rfl
    ·obtain⟨c,hm⟩:=VI (n:=(s.heap.push { cls:=.type "dict",data:=.dict #[] }).objs.size) (acc:=gN X.env.cells scope.names []) (PySem.mem_of_lookup e);obtain⟨c',e'⟩:=OA hm;exact⟨c',by rw[hcl];exact e'⟩
    ·obtain⟨c,h1,_⟩:=look e;exact⟨c,h1⟩
   rcases hy with hy |hy
   ·exact key _ hy (.inl rfl)
   ·exact key _ hy (.inr rfl)
  ·have z:(scope.names.lookup y==some NameKind.cell)=true:=z;have z:scope.names.lookup y=some .cell:=by simpa using z
   have e:cenv.cells.lookup y=some c:=e;rw[hcl] at e
   rcases zB (PySem.mem_of_lookup e) with hm |⟨_,h2,_⟩
   ·rcases yT hm with hm |⟨h1,_⟩
    ·cases hm
    ·have q:=ok.uniq _ h1;rw[z] at q;cases q
   ·rw[Heap.size_push] at h2;exact Nat.le_of_succ_le h2
  ·show b≠cenv.locals;rw[hL];exact Nat.ne_of_lt (hfp b hb).2
  ·have e:cenv.cells.lookup y=some c:=e
   rcases mem e with⟨h1,_⟩ |⟨h1,_⟩
   ·exact(hfp b hb).1.2.2.2.2.1 y c h1 z
   ·have h2:s.heap.objs.size+1≤b:=by rw[←z];exact h1
    exact absurd (Nat.lt_of_lt_of_le (hfp b hb).2 (Nat.le_of_succ_le h2)) (Nat.lt_irrefl _)
  ·rcases(hfp b hb).1.2.2.2.1 with z |z
   ·exact I.ok.noex b o e z
   ·exact absurd (Nat.lt_of_lt_of_le (Heap.lt_size e) (Nat.le_trans I.ok.bsz z)) (Nat.lt_irrefl _)
  ·rcases List.mem_cons.mp (I.ga b z) with z |z
   ·exact(hfp b hb).1.2.1 z
   ·exact(hfp b hb).1.2.2.1 z
 refine⟨okB,rfl,I.lR,Un.fD kp,⟨fun _=>none,?_,fun i y av e1 e2 e3=>?_⟩,fun y c e=>?_,?_,fun y c e=>?_,fun p hp=>?_,I.hok.fD kp,by rw[IF];exact I.len⟩
 ·show Heap.Ns _ cenv.locals _;rw[hL];exact Heap.Ns.keeps (Heap.Ns.new ..) fun b o e=>pushCells_keeps _ _ _ _ e
 ·obtain⟨e2,hne⟩:=XF e2;have hfr:scope.names.lookup y=some .free∧(cenv.kindOf y=some .cell∨cenv.kindOf y=some .free):=by
   have key:∀k,cenv.scope.names.lookup y=some k→k=.local∨k=.cell∨k=.free→scope.names.lookup y=some .free∧(cenv.kindOf y=some .cell∨cenv.kindOf y=some .free):=fun k hk hk'=>by
    have hk0:=hk;rw[hsc] at hk;obtain⟨k',e,r⟩:=JY hk;have no:¬(k'=.local∨k'=.cell):=fun hh=>by
     rcases ok.own _ (PySem.mem_of_lookup e) hh with e' |e'
     ·obtain⟨p,hp,hpy⟩:=List.mem_map.mp e';have e3:=ok.ix p hp;have :p.1=y:=hpy;rw[this] at e3;exact hne (List.mem_map.mpr ⟨p,hp,A3 hN e3 e1⟩)
     ·exact e' (List.mem_of_getElem? e1)
    rcases r with rfl |⟨rfl,rfl⟩
    ·rcases hk' with rfl |rfl |rfl
     ·exact absurd (.inl rfl) no
     ·exact absurd (.inr rfl) no
     ·exact⟨e,.inr hk0⟩
    ·exact⟨e,.inl hk0⟩
   have e3:Vis cenv.scope y:=e3
   rcases e3 with e3 |e3 |e3
   ·exact key _ e3 (.inl rfl)
   ·exact key _ e3 (.inr (.inl rfl))
   ·exact key _ e3 (.inr (.inr rfl))
  obtain⟨m,hn,hl⟩:=I.loc;have hvis:Vis X.env.scope y:=(ok.free _ (PySem.mem_of_lookup hfr.1) rfl).elim (fun k=>.inr (.inl k)) (fun k=>.inr (.inr k));obtain⟨w,r,q⟩:=hl i y av e1 e2 hvis;refine⟨w,r,.inr ⟨hfr.2,?_⟩⟩;obtain⟨c,h1,h2⟩:=look hfr.1
  rcases q with⟨k,_⟩ |⟨_,c',e',z⟩
  ·have k:X.env.scope.names.lookup y=some .local:=k
   rcases ok.free _ (PySem.mem_of_lookup hfr.1) rfl with k' |k' <;> rw[show X.env.scope.names.lookup y=_ from k'] at k <;> cases k
  ·rw[h2] at e';cases e';exact⟨c,h1,z.keeps kp⟩
 ·have e:cenv.cells.lookup y=some c:=e
  rcases mem e with⟨h1,_⟩ |⟨_,z⟩
  ·obtain⟨w,z⟩:=I.cell y c h1;exact⟨w,z.keeps kp⟩
  ·exact⟨_,z⟩
 ·show H cenv.locals=none;rw[hL];exact I.hok.fresh (Nat.le_refl _)
 ·have e:cenv.cells.lookup y=some c:=e
  rcases mem e with⟨h1,_⟩ |⟨h1,_⟩
  ·exact I.tI y c h1
  ·exact I.hok.fresh (Nat.le_of_succ_le h1)
 ·exact absurd (show p∈([]:List (Addr×Obj))++[] from hp) (by simp)
theorem app_ok{E:Value→Shared→Prop}{D:Addr}{xs:List V}{y:V}{v:Value}{Q:Value→Shared→Prop}(I:Inv X pins σ H s)(hD:H D=some (.lst xs))(hz:xs.length < sizeLine)(r:dZ y v)
  (h:∀s',Inv X pins σ (upd H D (.lst (xs++[y]))) s'→Q .none s'):wpAny (model X.prog X.w) X.A (call (.builtin "list.append") [.ref D,v]) Q E s:=by
 obtain⟨hz',its,n,ri,e⟩:=I.hok D _ hD;have hl:=ri.length;refine append_at (hsz:=by rw[List.size_toArray];omega) e fun h' sb ho'=>?_
 refine h { s with heap:=h' } (I.HH (t':=s.toks) (by rw[hD];trivial) (.inl rfl) (fun b u hb q=>(sb.2 b hb).trans q) ⟨_,ho'⟩ ⟨by rw[List.length_append];exact hz,its++[v],n+1,ri.append (.cons r .nil),?_⟩)
 rw[ho'];simp
def PTs(X:Cx)(ifs:List Expr)(t:TT):Prop:=
 ∀(pins:List (Addr×Obj)) (s:Shared) (σ:St) (H:Hp) (Q:Bool→Hp→Prop),Inv X pins σ H s→t σ H Q→
  wpAny (model X.prog X.w) X.A (forIn ifs true fun c r=>if r=true then do let ok ←isTrue c X.env (eval c X.env);pure (ForInStep.yield ok) else pure (ForInStep.yield r)) (TP X pins σ Q) X.xe s
def yK:TT:=fun _ H Q=>Q true H
theorem mL:PTs X [] yK:=fun _ _ _ H _ I h=>wpAny_tests_nil ⟨H,I,h⟩
theorem uR{c:Expr}{t:TT}(h:PT X c t):PTs X [c] t:=fun pins s σ H Q I hw=>wpAny_tests_one (h pins s σ H Q I hw)
end
theorem thnF{α:Type}{t:Sem α}{Q Q':α→Shared→Prop}{M:Model}{A:Around}{E:Value→Shared→Prop}{s:Shared}(h:wpAny M A t Q (fun _ _=>False) s)(hQ:∀a s,Q a s→Q' a s):wpAny M A t Q' E s:=wpAny_mono h hQ fun _ _ z=>False.elim z
theorem gw{prog:Program}{w:World}{A:Around}{R:Result→Shared→Prop}{s:Shared}{elt target iter:Expr}{ifs:List Expr}{scope:Scope}{pos:Pos}{it acc:Value}{env:Env}(I:Nat→Shared→Prop)
  (turn:∀n s,I n s→wpAny (model prog w) A (pyNext it) (fun r s₁=>match r with
   |none=>R (.ok .next) s₁
   |some v=>wpAny (model prog w) A (letOwnedTupleGo target it v) (fun _ s₁'=>wpAny (model prog w) A (assign target env v) (fun _ s₂=>
     wpAny (model prog w) A (forIn ifs true fun c r=>if r=true then do let ok ←isTrue c env (eval c env);pure (ForInStep.yield ok) else pure (ForInStep.yield r)) (fun ok s₃=>
      if ok=true then wpAny (model prog w) A (eval elt env) (fun x s₄=>
       wpAny (model prog w) A (call (.builtin "list.append") [acc,x]) (fun _ s₅=>∃m,m < n∧I m s₅) (notedBy (model prog w) A env fun e s'=>R (.error e) s') s₄) (notedBy (model prog w) A env fun e s'=>R (.error e) s') s₃
      else ∃m,m < n∧I m s₃) (notedBy (model prog w) A env fun e s'=>R (.error e) s') s₂) (notedBy (model prog w) A env fun e s'=>R (.error e) s') s₁') (notedBy (model prog w) A env fun e s'=>R (.error e) s') s₁) (notedBy (model prog w) A env fun e s'=>R (.error e) s') s)
  (n:Nat) (h:I n s):
  codeAny (model prog w) A (.compLoop (.ListComp elt [⟨target,iter,ifs,0⟩] scope pos) 0 it acc env) R s:=by
 refine codeAny_loop rfl I (fun n s hI=>?_) n h
 show wpAny _ A ((compTurn (.ListComp elt [⟨target,iter,ifs,0⟩] scope pos) 0 it acc env).onRaise (fun x=>do noteFrame x env;theTreesLotGoes x)) _ _ s
 refine wpAny_noted ?_;rw[compTurn_list];refine wpAny_bind (wpAny_standAt (wpAny_bind (wpAny_mono (turn n s hI) (fun r s₁ h₁=>?_) fun _ _ h'=>h')))
 cases r with
 |none=>exact wpAny_pure h₁
 |some v=>
  refine wpAny_bind (wpAny_mono h₁ (fun _ s₁' h₁'=>?_) fun _ _ h'=>h');refine wpAny_bind (wpAny_mono h₁' (fun _ s₂ h₂=>wpAny_bind (wpAny_mono h₂ (fun ok s₃ h₃=>?_) fun _ _ h'=>h')) fun _ _ h'=>h')
  cases ok with
  |false=>exact wpAny_pure ⟨rfl,h₃⟩
  |true=>
   exact wpAny_bind (wpAny_bind (wpAny_mono h₃ (fun x s₄ h₄=>wpAny_bind (wpAny_mono h₄ (fun _ s₅ h₅=>wpAny_pure (wpAny_pure ⟨rfl,h₅⟩)) fun _ _ h'=>h')) fun _ _ h'=>h'))
section
variable{X:Cx}
def tLc(wi:TI)(g:TG)(tt:TT)(te:TE)(vs:List Nat):TE:=fun σ H Q=>wi σ H fun J H1=>∀D,H1 D=none→∃W:Nat→Nat→Hp→Prop,(∃m,W 0 m (upd H1 D (.lst [])))∧∀i m H,W i m H→
 (J.vL i H∧Q (.ref D) H)∨(J.go i H∧∃Nx:Hp→Prop,(∀H',Nx H'→∃m',m' < m∧W (i+1) m' H')∧∀x H',J.yld i H x H'→g x (hE σ vs) H' fun σ2 H2=>hE σ2 vs=hE σ vs∧tt σ2 H2 fun b H3=>
  if b=true then te σ2 H3 fun y H4=>∃acc,H4 D=some (.lst acc)∧acc.length < sizeLine∧Nx (upd H4 D (.lst (acc++[y]))) else Nx H3)
theorem qs{pins:List (Addr×Obj)}{s:Shared}{σ:St}{H:Hp}{Q:VK}{elt tg iter:Expr}{ifs:List Expr}{scope:Scope}{own:List (Str×Nat)}{pos pos':Pos}{wi:TI}{g:TG}{tt:TT}{te:TE}{use:Option (Value→Sem Unit)}{Qf:Value→Shared→Prop}
  (hc:X.uM=true) (hN:X.N.Nodup) (I:Inv X pins σ H s) (hi:PI X tg iter wi) (ok:K7 X.N X.env.scope scope own)
  (hg:∀(s:Shared) (H:Hp) (C:Addr) (cl:List (Str×Addr)) (fp:List Addr),PG (X.blk s H scope (compEnvC scope cl C X.env) fp) tg g) (ht:∀(s:Shared) (H:Hp) (C:Addr) (cl:List (Str×Addr)) (fp:List Addr),PTs (X.blk s H scope (compEnvC scope cl C X.env) fp) ifs tt)
  (he:∀(s:Shared) (H:Hp) (C:Addr) (cl:List (Str×Addr)) (fp:List Addr),PE (X.blk s H scope (compEnvC scope cl C X.env) fp) elt te) (hs:∀x,foldedSetIterable iter X.env x=pure x)
  (h:tLc wi g tt te (own.map (·.2)) σ H Q)
  (hRR:∀D C s' m H',Inv X pins σ H' s'→Q (.ref D) H'→s'.heap.Ns C m→FP X pins H' C→compPost (model X.prog X.w) X.A X.xe use Qf (.ref D) C (.ok .next) s'):
  wpAny (model X.prog X.w) X.A (comprehension (.ListComp elt [⟨tg,iter,ifs,0⟩] scope pos) scope X.env pos' (newList []) false (eval iter X.env) use) Qf X.xe s:=by
 have hfree:∀y∈scope.names,y.2=.free→∃c,X.env.cells.lookup y.1=some c:=fun y hy e=>by
  rcases ok.free y hy e with k |k
  ·exact I.ok.has _ (.inl k)
  ·exact I.ok.has _ (.inr k)
 refine wpAny_comprehension_free (use:=use) rfl hs (wn hfree) ok.kind (fun y hy e=>by rw[ok.uniq y hy,e])
  (thn (hi pins s σ H _ I h) fun xv s1 hx=>thn hx fun itv s2 h2=>?_)
 obtain⟨it,fp,tn,J,H2,e,I2,T,st2,f2,q⟩:=h2;subst e;refine wpAny_newObj_type (jx ?_) (by show 0≤sizeLine;decide);generalize hD:s2.heap.objs.size=D;have hDn:H2 D=none:=I2.hok.fresh (Nat.le_of_eq hD);obtain⟨W,⟨m0,w0⟩,turn⟩:=q D hDn
 generalize hs3:({ s2 with heap:=s2.heap.push { cls:=.type "list",data:=.seq ([]:List Value).toArray } }:Shared)=s3
 have I3:Inv X pins σ (upd H2 D (.lst [])) s3:=by
  rw[←hs3];refine I2.wN (t':=s2.toks) (fun b o e=>Heap.get?_push_of_some _ e) (Nat.le_of_eq hD) ⟨Nat.zero_le _,[],0,.nil,?_⟩;rw[←hD];exact Heap.get?_push_size _ rfl
 have h3:s3.heap=s2.heap.push { cls:=.type "list",data:=.seq ([]:List Value).toArray }:=by rw[←hs3]
 have sz:∀b∈fp,b < s2.heap.objs.size:=fun b hb=>by
  obtain⟨o,e,_⟩:=T.obj _ _ st2 b hb;exact Heap.lt_size e
 have f3:∀b∈fp,FP X pins (upd H2 D (.lst [])) b∧b < s3.heap.objs.size:=fun b hb=>by
  have hlt:=sz b hb;refine⟨⟨?_,(f2 b hb).2⟩,by rw[h3,Heap.size_push];exact Nat.lt_succ_of_lt hlt⟩;rw[bA (by rw[←hD];exact Nat.ne_of_lt hlt)];exact(f2 b hb).1
 have st3:tn 0 s3.heap:=T.keep _ _ _ st2 fun b _ o e=>by rw[h3];exact Heap.get?_push_of_some _ e
 have I4:=ow I3 ok hN f3;have pg:=hg s3 (upd H2 D (.lst [])) s3.heap.objs.size (cellsFrom (s3.heap.objs.size+1) scope.names (gN X.env.cells scope.names [])) fp;have pt:=ht s3 (upd H2 D (.lst [])) s3.heap.objs.size (cellsFrom (s3.heap.objs.size+1) scope.names (gN X.env.cells scope.names [])) fp;have pe:=he s3 (upd H2 D (.lst [])) s3.heap.objs.size (cellsFrom (s3.heap.objs.size+1) scope.names (gN X.env.cells scope.names [])) fp
 show codeAny _ _ (.compStart (.ListComp elt [⟨tg,iter,ifs,0⟩] scope pos) 0 (.ref it) (.ref D) (compEnvC scope (cellsFrom (s3.heap.objs.size+1) scope.names (gN X.env.cells scope.names [])) s3.heap.objs.size X.env)) (compPost (model X.prog X.w) X.A X.xe use Qf (.ref D) s3.heap.objs.size) { s3 with heap:=pushCells (s3.heap.push { cls:=.type "dict",data:=.dict #[] }) scope.names }
 have nfp:∀b∈fp,(upd H2 D (.lst [])) b=none:=fun b hb=>(f3 b hb).1.1;generalize hce:compEnvC scope (cellsFrom (s3.heap.objs.size+1) scope.names (gN X.env.cells scope.names [])) s3.heap.objs.size X.env=ce at I4 pg pt pe ⊢;have cL:ce.locals=s3.heap.objs.size:=by subst hce;rfl
 generalize hH3:upd H2 D (.lst [])=H3 at I3 I4 pg pt pe w0 nfp f3
 generalize hs4:({ s3 with heap:=pushCells (s3.heap.push { cls:=.type "dict",data:=.dict #[] }) scope.names }:Shared)=s4 at I4 ⊢
 have st4:tn 0 s4.heap:=T.keep _ _ _ st3 fun b _ o e=>by rw[←hs4];exact pushCells_keeps _ _ _ _ (Heap.get?_push_of_some _ e)
 have stat:∀{σ':St} {H':Hp} {s':Shared},Inv (X.blk s3 H3 scope ce fp) [] σ' H' s'→(∀b∈fp,H' b=none)→∀b∈fp,FP (X.blk s3 H3 scope ce fp) [] H' b:=fun {σ' H' s'} I' hn b hb=>
  ⟨hn b hb,(I'.ok.exf b hb).1,I'.ok.exfs b hb,.inl hb,fun x c e=>(I'.ok.exf b hb).2 x c e,fun p hp=>absurd (show p∈([]:List (Addr×Obj))++[] from hp) (by simp)⟩
 have loop:codeAny (model X.prog X.w) X.A (.compLoop (.ListComp elt [⟨tg,iter,ifs,0⟩] scope pos) 0 (.ref it) (.ref D) ce) (compPost (model X.prog X.w) X.A X.xe use Qf (.ref D) s3.heap.objs.size) s4:=by
  refine gw (fun n s'=>∃i H',Inv (X.blk s3 H3 scope ce fp) [] (hE σ (own.map (·.2))) H' s'∧tn i s'.heap∧(∀b∈fp,H' b=none)∧W i n H') ?_ m0 ⟨0,H3,I4,st4,nfp,w0⟩;rintro n s5 ⟨i,H5,I5,st5,n5,w5⟩
  rcases turn i n H5 w5 with⟨vL,qq⟩ |⟨go,Nx,hNx,step⟩
  ·have td:=T.done (X.blk s3 H3 scope ce fp) rfl rfl rfl hc i [] s5 _ H5 (fun _ _=>False) I5 (stat I5 n5) st5 vL;refine thnF td fun r s6 ⟨hr,I6⟩=>?_;subst hr;have I7:Inv X pins σ H5 s6:=I3.call' (ch:=fp) I6.os I6.aT I6.hok I6.lR fun b hb=>⟨(f3 b hb).1.2.2.2.1,(f3 b hb).1.2.1,(f3 b hb).1.2.2.2.2.1,(f3 b hb).1.2.2.2.2.2⟩;have nC:H5 s3.heap.objs.size=none:=by
    have z:H5 ce.locals=none:=I6.free;rw[cL] at z;exact z
   obtain⟨m,hn,_⟩:=I6.loc;have hn:s6.heap.Ns ce.locals m:=hn;rw[cL] at hn;exact hRR D s3.heap.objs.size s6 m H5 I7 qq hn (I3.fpOk (Nat.le_refl _) nC)
  ·have ti:=T.item (X.blk s3 H3 scope ce fp) rfl rfl rfl hc i [] s5 _ H5 (fun _ _=>False) I5 (stat I5 n5) st5 go;refine thnF ti fun r s6 ⟨u,hr,h6⟩=>?_;subst hr;refine thnF h6 fun _ s7 ⟨x,H7,I7,r7,y7,st7,n7⟩=>?_;have I7':=I7.Cc (stat I7 n7) (T.obj _ _ st7);refine thnF (pg _ s7 _ H7 x u _ I7' r7 (step x H7 y7)) fun _ s8 ⟨σ8,H8,I8,hw8,q8⟩=>?_;refine thnF (pt _ s8 σ8 H8 _ I8 q8) fun b s9 ⟨H9,I9,q9⟩=>?_;have fin:∀{s':Shared} {H':Hp},Inv (X.blk s3 H3 scope ce fp) ([]++XX fp s7.heap) σ8 H' s'→Nx H'→∃m,m < n∧∃i H',Inv (X.blk s3 H3 scope ce fp) [] (hE σ (own.map (·.2))) H' s'∧tn i s'.heap∧(∀b∈fp,H' b=none)∧W i m H':=fun {s' H'} I' nx=>by
    obtain⟨m',hm,w'⟩:=hNx H' nx;have pin':∀b∈fp,∀o,s7.heap.get? b=some o→s'.heap.get? b=some o∧H' b=none:=fun b hb o e=>
     let z:=I'.pin (b,o) (List.mem_append_right _ (List.mem_append_right _ (PD hb e)))
     ⟨z.1,z.2.1⟩
    have hl:(hE σ (own.map (·.2))).length=σ8.length:=by rw[←hw8,IF]
    refine⟨m',hm,i+1,H',(I'.QL (pins:=[])).weak hl (fun j v e=>?_),T.keep _ _ _ st7 fun b hb o e=>(pin' b hb o e).1,fun b hb=>?_,w'⟩
    ·rw[←hw8] at e;exact(XF e).1
    ·obtain⟨o,e,_⟩:=T.obj _ _ st7 b hb;exact(pin' b hb o e).2
   cases b with
   |false=>
    simp only[Bool.false_eq_true,if_false] at q9 ⊢;exact fin I9 q9
   |true=>
    simp only[if_true] at q9 ⊢;refine thnF (pe _ s9 σ8 H9 _ I9 q9) fun z s10 ⟨yv,H10,I10,r10,acc,hD10,hz10,nx⟩=>?_;exact app_ok (X:=X.blk s3 H3 scope ce fp) I10 hD10 hz10 r10 fun s11 I11=>fin I11 nx
 exact codeAny_compStart_list loop (T.r8 X.A 0 _ _ _ st4 loop)
theorem mQ{elt tg iter:Expr}{ifs:List Expr}{scope:Scope}{own:List (Str×Nat)}{pos:Pos}{wi:TI}{g:TG}{tt:TT}{te:TE}(hc:X.uM=true)(hN:X.N.Nodup)(hi:PI X tg iter wi)(ok:K7 X.N X.env.scope scope own)
  (hg:∀(s:Shared) (H:Hp) (C:Addr) (cl:List (Str×Addr)) (fp:List Addr),PG (X.blk s H scope (compEnvC scope cl C X.env) fp) tg g) (ht:∀(s:Shared) (H:Hp) (C:Addr) (cl:List (Str×Addr)) (fp:List Addr),PTs (X.blk s H scope (compEnvC scope cl C X.env) fp) ifs tt)
  (he:∀(s:Shared) (H:Hp) (C:Addr) (cl:List (Str×Addr)) (fp:List Addr),PE (X.blk s H scope (compEnvC scope cl C X.env) fp) elt te) (hs:∀x,foldedSetIterable iter X.env x=pure x:=by intro _;rfl):
  PE X (.ListComp elt [⟨tg,iter,ifs,0⟩] scope pos) (tLc wi g tt te (own.map (·.2))):=by
 intro pins s σ H Q I h;rw[eval_ListComp];refine qs hc hN I hi ok hg ht he hs h fun D C s' m H' I' q hn f=>⟨m,hn,fun h'' sb=>?_⟩;obtain⟨f0,f1,f2,f3,f4,f5⟩:=f;exact⟨.ref D,H',I'.vF (t':=s'.toks) (fun b o hb e=>(sb.2 b hb).trans e) f0 f1 f3 f4 f5,rfl,q⟩
theorem v7{i:Nat}{y:Str}{py:Pos}{elt tg iter:Expr}{ifs:List Expr}{scope:Scope}{own:List (Str×Nat)}{pos spos:Pos}{wi:TI}{g:TG}{tt:TT}{te:TE}(hc:X.uM=true)(hN:X.N.Nodup)(hy:X.N[i]? =some y)(hyl:X.env.scope.names.lookup y=some .local)
  (hsw:swapsWith (.ListComp elt [⟨tg,iter,ifs,0⟩] scope pos) (some (.Name y py)) spos.line X.env=pure true) (hi:PI X tg iter wi) (ok:K7 X.N X.env.scope scope own)
  (hg:∀(s:Shared) (H:Hp) (C:Addr) (cl:List (Str×Addr)) (fp:List Addr),PG (X.blk s H scope (compEnvC scope cl C X.env) fp) tg g) (ht:∀(s:Shared) (H:Hp) (C:Addr) (cl:List (Str×Addr)) (fp:List Addr),PTs (X.blk s H scope (compEnvC scope cl C X.env) fp) ifs tt)
  (he:∀(s:Shared) (H:Hp) (C:Addr) (cl:List (Str×Addr)) (fp:List Addr),PE (X.blk s H scope (compEnvC scope cl C X.env) fp) elt te) (hs:∀x,foldedSetIterable iter X.env x=pure x:=by intro _;rfl):
  PS X (.Assign [.Name y py] (.ListComp elt [⟨tg,iter,ifs,0⟩] scope pos) spos) (IM (tLc wi g tt te (own.map (·.2))) (dB i)):=by
 intro pins s σ H D I h;rw[exec_Assign_Name_used _ _ _ _ hsw];refine wpAny_bind (wpAny_standAt (wpAny_bind ?_))
 show wpAny _ X.A (do let _ ←comprehension (.ListComp elt [⟨tg,iter,ifs,0⟩] scope pos) scope X.env (firstIterPos [⟨tg,iter,ifs,0⟩] pos) (newList []) false (eval iter X.env) (some (assign (.Name y py) X.env))) _ _ s
 have h:tLc wi g tt te (own.map (·.2)) σ H (fun x H1=>dB i x σ H1 D.nx):=h;refine wpAny_bind (thn (qs (Qf:=fun _ s'=>SP X pins D .next s') hc hN I hi ok hg ht he hs h fun L C s' m H' I' q hn f=>?_) fun _ s' hq=>wpAny_pure (wpAny_pure hq));show wpAny _ _ (assign (.Name y py) X.env (.ref L)) _ _ _;refine wpAny_assign_Name (U2 (v:=V.ref L) I' hN hy (.inl hyl) rfl (fun s2 I2 ⟨a,sb,ha⟩=>?_) (.inr hyl));obtain⟨f0,f1,f2,f3,f4,f5⟩:=f;have haC:C≠a:=by
  rcases ha with z |z
  ·rw[z];exact f1
  ·exact fun e=>f4 y a z e.symm
 refine⟨m,hn.sameBut sb haC,fun h3 sb3=>?_⟩;exact⟨_,H',I2.vF (t':=s2.toks) (fun b o hb e=>(sb3.2 b hb).trans e) f0 f1 f3 f4 f5,q⟩
theorem L9{elt:Expr}{gs:List Comprehension}{scope:Scope}{pos py:Pos}{y:Str}{l:Nat}{env:Env}(hk:env.scope.kind=.function)(hy:env.scope.names.lookup y=some .local)(hl:(py.line==pos.line)=true)
  (ha:(scope.names.any fun(n,k)=>n==y&&(k==.local||k==.cell))=false):swapsWith (.ListComp elt gs scope pos) (some (.Name y py)) l env=pure true:=by
 have ky:env.kindOf y=some .local:=hy;have hb:env.blockKind=.function:=by unfold Env.blockKind;rw[hk];rfl
 unfold swapsWith;simp only[hb,ky,ha,Expr.pos,hl];rfl
end
theorem Eg{lo:Int}{n:Nat}{g:TG}{tt:TT}{te:TE}{vs:List Nat}{σ:St}{H1:Hp}{D:Addr}{Qd:Hp→Prop}(Pv:Nat→Hp→Prop)(h0:Pv 0 (upd H1 D (.lst [])))
  (hs:∀i H,i < n→Pv i H→g (.int (lo+i)) (hE σ vs) H fun σ2 H2=>hE σ2 vs=hE σ vs∧tt σ2 H2 fun b H3=>
   if b=true then te σ2 H3 fun y H4=>∃acc,H4 D=some (.lst acc)∧acc.length < sizeLine∧Pv (i+1) (upd H4 D (.lst (acc++[y]))) else Pv (i+1) H3) (hd:∀H,Pv n H→Qd H):
  ∃W:Nat→Nat→Hp→Prop,(∃m,W 0 m (upd H1 D (.lst [])))∧∀i m H,W i m H→
   ((Itr lo n).vL i H∧Qd H)∨((Itr lo n).go i H∧∃Nx:Hp→Prop,(∀H',Nx H'→∃m',m' < m∧W (i+1) m' H')∧∀x H',(Itr lo n).yld i H x H'→g x (hE σ vs) H' fun σ2 H2=>hE σ2 vs=hE σ vs∧tt σ2 H2 fun b H3=>
    if b=true then te σ2 H3 fun y H4=>∃acc,H4 D=some (.lst acc)∧acc.length < sizeLine∧Nx (upd H4 D (.lst (acc++[y]))) else Nx H3):=by
 refine⟨fun i m H=>m=n - i∧i≤n∧Pv i H,⟨n,by simp,Nat.zero_le _,h0⟩,?_⟩;rintro i m H ⟨rfl,hi,p⟩
 by_cases hlt:i < n
 ·refine .inr ⟨hlt,Pv (i+1),fun H' p'=>⟨n - (i+1),by omega,rfl,hlt,p'⟩,fun x H' y=>?_⟩;obtain⟨e,y⟩:=y;subst e y;exact hs i _ hlt p
 ·have e:i=n:=by omega
  subst e;exact .inl ⟨Nat.le_refl _,hd H p⟩
theorem qz{K:PySem.W.Frag}{a:Addr}{xs:List V}{g:TG}{tt:TT}{te:TE}{vs:List Nat}{σ:St}{H1:Hp}{D:Addr}{Qd:Hp→Prop}(Pv:Nat→Hp→Prop)(h0:Pv 0 (upd H1 D (.lst [])))(hl:∀i H,i≤xs.length→Pv i H→SqL K H a xs)
  (hs:∀i x H,xs[i]? =some x→Pv i H→g x (hE σ vs) H fun σ2 H2=>hE σ2 vs=hE σ vs∧tt σ2 H2 fun b H3=>
   if b=true then te σ2 H3 fun y H4=>∃acc,H4 D=some (.lst acc)∧acc.length < sizeLine∧Pv (i+1) (upd H4 D (.lst (acc++[y]))) else Pv (i+1) H3) (hd:∀H,Pv xs.length H→Qd H):
  ∃W:Nat→Nat→Hp→Prop,(∃m,W 0 m (upd H1 D (.lst [])))∧∀i m H,W i m H→
   ((Itl K a).vL i H∧Qd H)∨((Itl K a).go i H∧∃Nx:Hp→Prop,(∀H',Nx H'→∃m',m' < m∧W (i+1) m' H')∧∀x H',(Itl K a).yld i H x H'→g x (hE σ vs) H' fun σ2 H2=>hE σ2 vs=hE σ vs∧tt σ2 H2 fun b H3=>
    if b=true then te σ2 H3 fun y H4=>∃acc,H4 D=some (.lst acc)∧acc.length < sizeLine∧Nx (upd H4 D (.lst (acc++[y]))) else Nx H3):=by
 refine⟨fun i m H=>m=xs.length - i∧i≤xs.length∧Pv i H,⟨xs.length,by simp,Nat.zero_le _,h0⟩,?_⟩;rintro i m H ⟨rfl,hi,p⟩;have q:=hl i H hi p
 by_cases hlt:i < xs.length
 ·refine .inr ⟨⟨xs,xs[i],q,by simp[hlt]⟩,Pv (i+1),fun H' p'=>⟨xs.length - (i+1),by omega,rfl,hlt,p'⟩,fun x H' y=>?_⟩;obtain⟨e,y⟩:=y;subst e;exact hs i x _ (y xs q) p
 ·have e:i=xs.length:=by omega
  subst e;exact .inl ⟨⟨xs,q,Nat.le_refl _⟩,hd H p⟩
theorem lc_tup{K:PySem.W.Frag}{a:Addr}{xs:List V}{g:TG}{tt:TT}{te:TE}{vs:List Nat}{σ:St}{H1:Hp}{D:Addr}{Qd:Hp→Prop}(Pv:Nat→Hp→Prop)(h0:Pv 0 (upd H1 D (.lst [])))(hl:∀i H,i≤xs.length→Pv i H→SqT K H a xs)
  (hs:∀i x H,xs[i]? =some x→Pv i H→g x (hE σ vs) H fun σ2 H2=>hE σ2 vs=hE σ vs∧tt σ2 H2 fun b H3=>
   if b=true then te σ2 H3 fun y H4=>∃acc,H4 D=some (.lst acc)∧acc.length < sizeLine∧Pv (i+1) (upd H4 D (.lst (acc++[y]))) else Pv (i+1) H3) (hd:∀H,Pv xs.length H→Qd H):
  ∃W:Nat→Nat→Hp→Prop,(∃m,W 0 m (upd H1 D (.lst [])))∧∀i m H,W i m H→
   ((Itt K a).vL i H∧Qd H)∨((Itt K a).go i H∧∃Nx:Hp→Prop,(∀H',Nx H'→∃m',m' < m∧W (i+1) m' H')∧∀x H',(Itt K a).yld i H x H'→g x (hE σ vs) H' fun σ2 H2=>hE σ2 vs=hE σ vs∧tt σ2 H2 fun b H3=>
    if b=true then te σ2 H3 fun y H4=>∃acc,H4 D=some (.lst acc)∧acc.length < sizeLine∧Nx (upd H4 D (.lst (acc++[y]))) else Nx H3):=by
 refine⟨fun i m H=>m=xs.length - i∧i≤xs.length∧Pv i H,⟨xs.length,by simp,Nat.zero_le _,h0⟩,?_⟩;rintro i m H ⟨rfl,hi,p⟩;have q:=hl i H hi p
 by_cases hlt:i < xs.length
 ·refine .inr ⟨⟨xs,xs[i],q,by simp[hlt]⟩,Pv (i+1),fun H' p'=>⟨xs.length - (i+1),by omega,rfl,hlt,p'⟩,fun x H' y=>?_⟩;obtain⟨e,y⟩:=y;subst e;exact hs i x _ (y xs q) p
 ·have e:i=xs.length:=by omega
  subst e;exact .inl ⟨⟨xs,q,Nat.le_refl _⟩,hd H p⟩
def blkC(N:List Str)(sc scope:Scope)(own:List (Str×Nat)):Bool:=
 (match scope.kind with |.function=>true |_=>false)&&(scope.names.all fun y=>decide (scope.names.lookup y.1=some y.2))&&(own.all fun p=>decide (N[p.2]? =some p.1))&&
  (scope.names.all fun y=>match y.2 with
   |.free=>(match sc.names.lookup y.1 with |some .cell=>true |some .free=>true |_=>false)
   |.local=>decide (y.1∈own.map (·.1))||decide (y.1∉N)
   |.cell=>decide (y.1∈own.map (·.1))||decide (y.1∉N)
   |_=>true)
theorem gB{N:List Str}{sc scope:Scope}{own:List (Str×Nat)}(h:blkC N sc scope own=true):K7 N sc scope own:=by
 unfold blkC at h;simp only[Bool.and_eq_true,List.all_eq_true,decide_eq_true_eq] at h;obtain⟨⟨⟨h1,h2⟩,h3⟩,h4⟩:=h;refine⟨?_,h2,h3,fun y hy e=>?_,fun y hy e=>?_⟩
 ·split at h1
  ·assumption
  ·cases h1
 ·have q:=h4 y hy;simp only[e] at q
  split at q <;> first |exact .inl (by assumption) |exact .inr (by assumption) |cases q
 ·have q:=h4 y hy
  rcases e with e |e <;> (simp only[e,Bool.or_eq_true,decide_eq_true_eq] at q;exact q)
section
variable{X:Cx}{pins:List (Addr×Obj)}{σ:St}{H:Hp}{s:Shared}{h':Heap}
theorem Inv.zw{t':Nat}{ch:List Addr}{T:Addr}{ob:HO}(I:Inv X pins σ H s)(k:∀b o,b∉ch→s.heap.get? b=some o→h'.get? b=some o)(hf:∀b∈ch,FP X pins H b)(hT:s.heap.objs.size≤T)
  (new:iX X.prog X.w (upd H T ob) h' T ob):Inv X pins σ (upd H T ob) { s with heap:=h',toks:=t' }:=by
 have hn:H T=none:=I.hok.fresh hT;have nit:∀b u,H b=some u→b∉ch:=fun b u e z=>by
  have q:=(hf b z).1;rw[q] at e;cases e
 refine I.step (g':=s.gens) (d':=s.drawn) (ch:=ch) (fun b hb=>⟨(hf b hb).2.2.2.1,(hf b hb).2.1,(hf b hb).2.2.2.2.1,(hf b hb).2.2.2.2.2⟩) (fun b o _ _ hc e _=>k b o hc e) (fun b o _ _ hc e _=>⟨o.slots,k b o hc e⟩)
  (fun b o _ e n=>?_) (fun b o hc e=>⟨o,k b o hc e⟩) (fun b xs e=>?_) (fun b o u e=>?_) (fun b ps e=>⟨#[],?_⟩) (fun m hm=>?_) (fun b u e=>?_) I.lR
 ·rw[bA (Nat.ne_of_lt (Nat.lt_of_lt_of_le (Heap.lt_size e) hT))];exact n
 ·rw[bA (bN e hn)];exact e
 ·rw[bA (bN e hn)];exact e
 ·rw[bA (bN e hn),e];simp
 ·obtain⟨o,es,ep,ho,r⟩:=hm;exact⟨o,es,ep,k _ o (fun z=>(hf _ z).2.1 rfl) ho,r⟩
 ·by_cases hb:b=T
  ·subst hb;rw[aH] at e;cases e;exact new
  ·rw[bA hb] at e;refine(I.hok b u e).WP (fun c v hc q=>k c v ?_ q) (fun c q=>by rw[bA (bN q hn)];exact q) fun c xs q=>by rw[bA (bN q hn)];exact q
   rcases hc with z |z
   ·rw[z];exact nit b u e
   ·exact nit c _ z
end
def Ite(K:PySem.W.Frag)(a:Addr):It:=
 ⟨fun i H=>∃(xs:List V) (x:V),SqL K H a xs∧xs[i]? =some x,fun i H v H'=>∃T x,v=.ref T∧H T=none∧H'=upd H T (.tup [.int (i:Nat),x])∧∀xs,SqL K H a xs→xs[i]? =some x,fun i H=>∃xs:List V,SqL K H a xs∧xs.length≤i⟩
theorem Df{P:Program}{w:World}{K:PySem.W.Frag}{elts:List Expr}{kk:Nat}{tpos:Pos}(a e it:Addr):
  Turn P w K (.Tuple elts kk tpos) (Ite K a) [e,it] e (fun i h=>(∃old,IsEnum h e it ((i:Nat):Int) old)∧h.IsListIter it a i∧e≠it) where
 mem:=by simp
 obj:=fun i h st b hb=>by
  obtain⟨⟨old,he⟩,⟨o,ho,hc,hd⟩,_⟩:=st;have e':b=e∨b=it:=by simpa using hb
  rcases e' with z |z
  ·rw[z];exact⟨_,he,fun v q=>nomatch q⟩
  ·rw[z];exact⟨o,ho,fun v q=>by rw[hd] at q;cases q⟩
 keep:=fun i h h' st k=>let ⟨⟨old,he⟩,hi,hne⟩:=st;⟨⟨old,k e (by simp) _ he⟩,hi.at fun o q=>k it (by simp) o q,hne⟩
 item:=by
  intro X hP hw hK hc i pins s σ H E I hf st hg;subst hP hw hK;obtain⟨⟨old,he⟩,hit,hne⟩:=st;obtain⟨xs,x,hq,hx⟩:=hg;obtain⟨its,rv,p,hz⟩:=I.list hq;obtain⟨u,hu,ru⟩:=rv.get hx;have hel:e < s.heap.objs.size:=Heap.lt_size he;have hil:it < s.heap.objs.size:=by obtain⟨_,q,_⟩:=hit;exact Heap.lt_size q
  refine wpAny_pyNext_enum_item he hit p.isList (x:=u) (by simpa using hu) hne fun h' ho hit' hT hsz hk=>?_
  refine⟨_,rfl,wpAny_letOwnedTupleGo_enum (s:={ s with heap:=h',toks:=s.toks+1 }) ho fun h'' he' sb=>?_⟩
  have hT2:h''.get? s.heap.objs.size=some { cls:=.type "tuple",data:=.seq #[.int i s.toks,u] }:=(sb.2 _ (Nat.ne_of_gt hel)).trans hT;have new:iX X.prog X.w (upd H s.heap.objs.size (.tup [.int (i:Nat),x])) h'' s.heap.objs.size (.tup [.int (i:Nat),x]):=
   ⟨by show 2≤sizeLine;decide,[.int i s.toks,u],.cons ⟨_,rfl⟩ (.cons ru .nil),⟨_,hT2,rfl,_,rfl⟩⟩
  have I1:Inv X pins σ (upd H s.heap.objs.size (.tup [.int (i:Nat),x])) { s with heap:=h'',toks:=s.toks+1 }:=
   I.zw (ch:=[e,it]) (fun b ob hb q=>(sb.2 b (fun z=>hb (by simp[z]))).trans (hk b ob (fun z=>hb (by simp[z])) (fun z=>hb (by simp[z])) q)) hf (Nat.le_refl _) new
  refine⟨.ref s.heap.objs.size,_,I1,rfl,⟨_,x,rfl,I.hok.fresh (Nat.le_refl _),rfl,fun ys hy=>by rw[I.cv hy hq];exact hx⟩,⟨⟨u,?_⟩,hit'.at fun o q=>(sb.2 it (Ne.symm hne)).trans q,hne⟩,fun b hb=>?_⟩
  ·have e1:((i+1:Nat):Int)=(i:Int)+1:=by omega
   rw[e1];exact he'
  ·have hb':b < s.heap.objs.size:=by
    have e':b=e∨b=it:=by simpa using hb
    rcases e' with z |z
    ·rw[z];exact hel
    ·rw[z];exact hil
   rw[bA (Nat.ne_of_lt hb')];exact(hf b hb).1
 done:=by
  intro X hP hw hK hc i pins s σ H E I hf st hg;subst hP hw hK;obtain⟨⟨old,he⟩,hit,hne⟩:=st;obtain⟨xs,hq,hx⟩:=hg;obtain⟨its,rv,p,hz⟩:=I.list hq;obtain⟨f0,f1,f2,f3,f4,f5⟩:=hf it (by simp);have hl:=rv.length;exact wpAny_pyNext_enum_end (I.ok.hd hc) he hit p.isList (by simp;omega) fun h' eb=>⟨rfl,I.vF (t':=s.toks) (fun b o hb q=>eb b o hb q) f0 f1 f3 f4 f5⟩
 r8:=fun A i s Q E st h=>let ⟨⟨_,he⟩,_⟩:=st;wpAny_pyIter_enum he h
def xm(K:PySem.W.Frag)(ta:TA):TI:=fun σ H R=>ta σ H fun vs H1=>∃a xs,vs=[.ref a]∧SqL K H1 a xs∧R (Ite K a) H1
theorem MD{X:Cx}{e:Expr}{ta:TA}{p pos tpos:Pos}{elts:List Expr}{kk:Nat}(hg:Gl X "enumerate")(hm:X.mg "enumerate"=none)(ha:PA X [e] ta)(hs:starEach [e] X.env=[(false,eval e X.env)]:=by rfl):
  PI X (.Tuple elts kk tpos) (.Call (.Name "enumerate" p) [e] [] pos) (xm X.K ta):=by
 intro pins s σ H R I h;refine Call_ (US I hg hm boot_enumerate (PyProof.Rows.callWith_type1 (thn (ha pos pins s σ H _ I h) fun us s1 ⟨vs,H1,I1,r1,q1⟩=>?_) hs rfl));obtain⟨a,xs,ex,hq,q⟩:=q1;subst ex
 cases r1 with
 |cons r rr=>
  cases rr;cases r;obtain⟨its,rv,p',hz⟩:=I1.list hq;refine call_enumerate_list p'.isList fun h' he hit hsz hk=>wpAny_pyIter_enum he ?_
  have I2:Inv X pins σ H1 { s1 with heap:=h' }:=I1.fD (t':=s1.toks) hk
  refine⟨s1.heap.objs.size+1,[s1.heap.objs.size+1,s1.heap.objs.size],_,_,H1,rfl,I2,Df a (s1.heap.objs.size+1) s1.heap.objs.size,⟨⟨.none,he⟩,hit,Nat.succ_ne_self _⟩,fun b hb=>?_,q⟩;have e':b=s1.heap.objs.size+1∨b=s1.heap.objs.size:=by simpa using hb
  have hle:s1.heap.objs.size≤b:=by
   rcases e' with z |z
   ·rw[z];exact Nat.le_add_right _ _
   ·rw[z];exact Nat.le_refl _
  exact I1.fpOk hle (I1.hok.fresh hle)
end L2
section
namespace L2
open PySem PySem.Spec PyProof.Rows
open PySem.W (WData Codec OpenSpec Well WellAll ReadsW ReadsAllW)
mutual
inductive Dw (K:PySem.W.Frag) (H:Hp):V→WData→Prop
 |non:Dw K H .non .none
 |bl (b:Bool):Dw K H (.bl b) (.bool b)
 |int (i:Int):Dw K H (.int i) (.int i)
 |str (x:Str):Dw K H (.str x) (.str x)
 |byt (b:Array UInt8):Dw K H (.byt b) (.bytes b.toList)
 |lst {a:Addr} {xs:List V} {ds:List WData}:SqL K H a xs→tG K H xs ds→Dw K H (.ref a) (.list ds)
 |tup {a:Addr} {xs:List V} {ds:List WData}:SqT K H a xs→tG K H xs ds→Dw K H (.ref a) (.tuple ds)
inductive tG (K:PySem.W.Frag) (H:Hp):List V→List WData→Prop
 |nil:tG K H [] []
 |cons {v:V} {vs:List V} {d:WData} {ds:List WData}:Dw K H v d→tG K H vs ds→tG K H (v::vs) (d::ds)
end
theorem rg{K:PySem.W.Frag}{H:Hp}:∀ns:List Int,tG K H (ns.map V.int) (ns.map WData.int)
 |[]=>.nil
 |n::r=>.cons (.int n) (rg r)
theorem qm{K:PySem.W.Frag}{H:Hp}:∀(ns:List Int) (xs:List V),tG K H xs (ns.map WData.int)→xs=ns.map V.int
 |[],xs,h=>by
  cases h;rfl
 |n::r,xs,h=>by
  cases h with
  |cons h1 h2=>
   cases h1;rw[qm r _ h2] <;> rfl
section
variable{P:Program}{w:World}{K:PySem.W.Frag}{H:Hp}{h:Heap}{R:PySem.W.WRecords}{cl:Str→Option Addr}
theorem sqL_at{a:Addr}{xs:List V}(hok:HOk P w H h)(KX:K.In h)(q:SqL K H a xs):∃(its:List Value) (o:Obj) (n:Nat),cR xs its∧h.get? a=some o∧o.cls=.type "list"∧o.data=.seq its.toArray n:=by
 rcases q with q |⟨o,its,n,e,hc,_,hd,_,hv⟩
 ·obtain⟨_,its,n,hv,e⟩:=(show iX P w H h a (.lst xs) from q.ok hok);exact⟨its,_,n,hv,e,rfl,rfl⟩
 ·exact⟨its.toList,o,n,hv,KX _ _ e,hc,by simp[hd]⟩
theorem sqT_at{a:Addr}{xs:List V}(hok:HOk P w H h)(KX:K.In h)(q:SqT K H a xs):∃(its:List Value) (o:Obj) (n:Nat),cR xs its∧h.get? a=some o∧o.cls=.type "tuple"∧o.data=.seq its.toArray n:=by
 rcases q with q |⟨o,its,n,e,hc,hd,_,hv⟩
 ·obtain⟨_,its,hv,o,e,hc,n,hd⟩:=(show iX P w H h a (.tup xs) from q.ok hok);exact⟨its,o,n,hv,e,hc,hd⟩
 ·exact⟨its.toList,o,n,hv,KX _ _ e,hc,by simp[hd]⟩
mutual
theorem Dw.ba(hok:HOk P w H h)(KX:K.In h):∀(d:WData) (v:V) (u:Value),Dw K H v d→dZ v u→∃as,ReadsW R cl h u d as
 |.none,_,_,x,r=>by
  cases x;cases r;exact⟨_,ReadsW.none⟩
 |.bool b,_,_,x,r=>by
  cases x;cases r;exact⟨_,ReadsW.bool b⟩
 |.int i,_,_,x,r=>by
  cases x;obtain⟨t,rfl⟩:=r;exact⟨_,ReadsW.int i t⟩
 |.str s,_,_,x,r=>by
  cases x;obtain⟨t,rfl⟩:=r;exact⟨_,ReadsW.str s t⟩
 |.bytes b,_,_,x,r=>by
  cases x;obtain⟨t,rfl⟩:=r;exact⟨_,ReadsW.bytes _ t⟩
 |.list ds,_,_,x,r=>by
  cases x with
  |lst hs ha=>
   cases r;obtain⟨its,o,n,rv,ho,hc,hd⟩:=sqL_at hok KX hs;obtain⟨as,hr⟩:=Dw.uO hok KX ds _ its ha rv;exact⟨_,ReadsW.list ho hc hd hr⟩
 |.tuple ds,_,_,x,r=>by
  cases x with
  |tup hs ha=>
   cases r;obtain⟨its,o,n,rv,ho,hc,hd⟩:=sqT_at hok KX hs;obtain⟨as,hr⟩:=Dw.uO hok KX ds _ its ha rv;exact⟨_,ReadsW.tuple ho hc hd hr⟩
 |.float _,_,_,x,_=>by cases x
 |.dict _,_,_,x,_=>by cases x
 |.bytearray _,_,_,x,_=>by cases x
 |.set _,_,_,x,_=>by cases x
 |.frozenset _,_,_,x,_=>by cases x
 |.obj _ _,_,_,x,_=>by cases x
theorem Dw.uO(hok:HOk P w H h)(KX:K.In h):∀(ds:List WData) (vs:List V) (us:List Value),tG K H vs ds→cR vs us→∃as,ReadsAllW R cl h us ds as
 |[],_,_,x,r=>by
  cases x;cases r;exact⟨_,ReadsAllW.nil⟩
 |d::ds,_,_,x,r=>by
  cases x with
  |cons h1 h2=>
   cases r with
   |cons r1 r2=>
    obtain⟨as,q1⟩:=Dw.ba hok KX d _ _ h1 r1;obtain⟨bs,q2⟩:=Dw.uO hok KX ds _ _ h2 r2;exact⟨_,ReadsAllW.cons q1 q2⟩
end
end
mutual
def plW:WData→Bool
 |.none=>true
 |.bool _=>true
 |.int _=>true
 |.str _=>true
 |.bytes _=>true
 |.list xs=>AO xs
 |.tuple xs=>AO xs
 |_=>false
def AO:List WData→Bool
 |[]=>true
 |x::r=>plW x&&AO r
end
theorem ck{α:Type}{f:α→WData}(h:∀a,plW (f a)=true):∀l:List α,AO (l.map f)=true
 |[]=>rfl
 |x::r=>by
  show(plW (f x)&&AO (r.map f))=true;rw[h x,ck h r] <;> rfl
theorem zE:∀(c:Codec) (a:c.denote),plW (c.enc a)=true
 |.unit,_=>rfl
 |.bool,_=>rfl
 |.int _ _,_=>rfl
 |.nat _ _,_=>rfl
 |.u8,_=>rfl
 |.bytes _ _,_=>rfl
 |.text _ _ _ _,_=>rfl
 |.list _ _ c,a=>ck (fun x=>zE c x) a
 |.pair c d,a=>by
  show(plW (c.enc a.1)&&(plW (d.enc a.2)&&true))=true;rw[zE c a.1,zE d a.2] <;> rfl
 |.triple c d e,a=>by
  show(plW (c.enc a.1)&&(plW (d.enc a.2.1)&&(plW (e.enc a.2.2)&&true)))=true;rw[zE c a.1,zE d a.2.1,zE e a.2.2] <;> rfl
 |.option c,none=>rfl
 |.option c,some x=>zE c x
theorem V3:∀(cs:List Codec) (a:Codec.denoteAll cs),AO (Codec.encAll cs a)=true
 |[],_=>rfl
 |c::cs,a=>by
  show(plW (c.enc a.1)&&AO (Codec.encAll cs a.2))=true;rw[zE c a.1,V3 cs a.2] <;> rfl
theorem OR:∀{xs:List WData} {d:WData},d∈xs→d.weight≤WData.weightAll xs
 |[],d,h=>absurd h (by simp)
 |x::r,d,h=>by
  show d.weight≤x.weight+1+WData.weightAll r
  rcases List.mem_cons.mp h with e |m
  ·rw[e];omega
  ·have z:=OR m;omega
def toV:Value→V
 |.none=>.non
 |.bool b=>.bl b
 |.int i _=>.int i
 |.str x _=>.str x
 |.bytes b _=>.byt b
 |.ref a=>.ref a
 |_=>.non
def OkU(A:List Addr):Value→Prop
 |.none=>True
 |.bool _=>True
 |.int _ _=>True
 |.str _ _=>True
 |.bytes _ _=>True
 |.ref a=>a∈A
 |_=>False
theorem OkU.cF{A B:List Addr}(h:∀a∈A,a∈B):∀{u:Value},OkU A u→OkU B u:=fun {u} x=>by
 cases u with
 |ref a=>exact h a x
 |none=>trivial
 |bool b=>trivial
 |int i t=>trivial
 |str s t=>trivial
 |bytes b t=>trivial
 |_=>exact False.elim x
theorem Ev{A:List Addr}{u:Value}(x:OkU A u):dZ (toV u) u:=by
 cases u with
 |ref a=>rfl
 |none=>rfl
 |bool b=>rfl
 |int i t=>exact⟨t,rfl⟩
 |str s t=>exact⟨t,rfl⟩
 |bytes b t=>exact⟨t,rfl⟩
 |_=>exact False.elim x
theorem xU{A:List Addr}:∀{vs:List Value},(∀u∈vs,OkU A u)→cR (vs.map toV) vs
 |[],_=>.nil
 |u::r,h=>.cons (Ev (h u (List.mem_cons_self ..))) (xU fun x hx=>h x (List.mem_cons_of_mem _ hx))
def tM(h:Heap)(A:List Addr)(a:Addr):Prop:=∃vs:List Value,vs.length≤sizeLine∧(∀u∈vs,OkU A u)∧
 (h.get? a=some { cls:=.type "list",data:=.seq vs.toArray }∨h.get? a=some { cls:=.type "tuple",data:=.seq vs.toArray })
theorem tM.cF{h:Heap}{A B:List Addr}{a:Addr}(k:∀a∈A,a∈B)(x:tM h A a):tM h B a:=by
 obtain⟨vs,h1,h2,h3⟩:=x;exact⟨vs,h1,fun u hu=>(h2 u hu).cF k,h3⟩
theorem yQ{P:Params}{h:Heap}:∀{vs:List Value} {ds:List WData},WellAll P h vs ds→vs.length=ds.length
 |_,_,.nil=>rfl
 |_,_,.cons _ b=>by
  show _+1=_+1;rw[yQ b]
theorem S4{P:Params}{h:Heap}{v:Value}{ds:List WData}(x:Well P h v (.list ds)):∃(a:Addr) (vs:List Value),v=.ref a∧h.get? a=some { cls:=.type "list",data:=.seq vs.toArray }∧WellAll P h vs ds:=by
 cases x with
 |list ho hall=>exact⟨_,_,rfl,ho,hall⟩
theorem I0{P:Params}{h:Heap}{v:Value}{ds:List WData}(x:Well P h v (.tuple ds)):∃(a:Addr) (vs:List Value),v=.ref a∧h.get? a=some { cls:=.type "tuple",data:=.seq vs.toArray }∧WellAll P h vs ds:=by
 cases x with
 |tuple ho hall=>exact⟨_,_,rfl,ho,hall⟩
theorem U6{P:Params}{h:Heap}{us:List Value}{d:WData}{ds:List WData}(x:WellAll P h us (d::ds)):∃(v:Value) (vs:List Value),us=v::vs∧Well P h v d∧WellAll P h vs ds:=by
 cases x with
 |cons a b=>exact⟨_,_,rfl,a,b⟩
theorem qt{n:Nat}(h:n≤1048576):n≤sizeLine:=Nat.le_trans h (by decide)
section
variable{P:Params}{h:Heap}
mutual
theorem Es:∀(d:WData) (v:Value),Well P h v d→plW d=true→d.weight≤1048576→∃A:List Addr,OkU A v∧∀a∈A,tM h A a
 |.none,_,x,_,_=>by
  cases x;exact⟨[],trivial,fun a m=>absurd m (by simp)⟩
 |.bool b,_,x,_,_=>by
  cases x;exact⟨[],trivial,fun a m=>absurd m (by simp)⟩
 |.int i,_,x,_,_=>by
  cases x;exact⟨[],trivial,fun a m=>absurd m (by simp)⟩
 |.str s,_,x,_,_=>by
  cases x;exact⟨[],trivial,fun a m=>absurd m (by simp)⟩
 |.bytes b,_,x,_,_=>by
  cases x;exact⟨[],trivial,fun a m=>absurd m (by simp)⟩
 |.list ds,_,x,p,z=>by
  obtain⟨a,vs,rfl,ho,hall⟩:=S4 x;have z2:WData.weightAll ds≤1048576:=z;obtain⟨A,h1,h2⟩:=RY ds _ hall p fun d hd=>Nat.le_trans (OR hd) z2;have k:∀b∈A,b∈a::A:=fun b hb=>List.mem_cons_of_mem _ hb;refine⟨a::A,List.mem_cons_self ..,fun b hb=>?_⟩
  rcases List.mem_cons.mp hb with e |m
  ·rw[e];exact⟨vs,qt (by rw[yQ hall];exact Nat.le_trans (PySem.W.length_le_weightAllW ds) z2),fun u hu=>(h1 u hu).cF k,.inl ho⟩
  ·exact(h2 b m).cF k
 |.tuple ds,_,x,p,z=>by
  obtain⟨a,vs,rfl,ho,hall⟩:=I0 x;have z2:WData.weightAll ds≤1048576:=z;obtain⟨A,h1,h2⟩:=RY ds _ hall p fun d hd=>Nat.le_trans (OR hd) z2;have k:∀b∈A,b∈a::A:=fun b hb=>List.mem_cons_of_mem _ hb;refine⟨a::A,List.mem_cons_self ..,fun b hb=>?_⟩
  rcases List.mem_cons.mp hb with e |m
  ·rw[e];exact⟨vs,qt (by rw[yQ hall];exact Nat.le_trans (PySem.W.length_le_weightAllW ds) z2),fun u hu=>(h1 u hu).cF k,.inr ho⟩
  ·exact(h2 b m).cF k
 |.float _,_,_,p,_=>Bool.noConfusion (show false=true from p)
 |.dict _,_,_,p,_=>Bool.noConfusion (show false=true from p)
 |.bytearray _,_,_,p,_=>Bool.noConfusion (show false=true from p)
 |.set _,_,_,p,_=>Bool.noConfusion (show false=true from p)
 |.frozenset _,_,_,p,_=>Bool.noConfusion (show false=true from p)
 |.obj _ _,_,_,p,_=>Bool.noConfusion (show false=true from p)
theorem RY:∀(ds:List WData) (vs:List Value),WellAll P h vs ds→AO ds=true→(∀d∈ds,d.weight≤1048576)→∃A:List Addr,(∀u∈vs,OkU A u)∧∀a∈A,tM h A a
 |[],_,x,_,_=>by
  cases x;exact⟨[],fun u m=>absurd m (by simp),fun a m=>absurd m (by simp)⟩
 |d::ds,_,x,p,z=>by
  obtain⟨v,vs,rfl,x1,x2⟩:=U6 x;have q:plW d=true∧AO ds=true:=Bool.and_eq_true_iff.mp p;obtain⟨A,a1,a2⟩:=Es d v x1 q.1 (z d (List.mem_cons_self ..));obtain⟨B,b1,b2⟩:=RY ds vs x2 q.2 fun e he=>z e (List.mem_cons_of_mem _ he);have kA:∀b∈A,b∈A++B:=fun b hb=>List.mem_append.mpr (.inl hb);have kB:∀b∈B,b∈A++B:=fun b hb=>List.mem_append.mpr (.inr hb);refine⟨A++B,fun u hu=>?_,fun b hb=>?_⟩
  ·rcases List.mem_cons.mp hu with e |m
   ·rw[e];exact a1.cF kA
   ·exact(b1 u m).cF kB
  ·rcases List.mem_append.mp hb with m |m
   ·exact(a2 b m).cF kA
   ·exact(b2 b m).cF kB
end
end
def hoOf(o:Obj):Option HO:=match o.data with
 |.seq vs _=>if (o.cls==Value.type "list")=true then some (.frz o (.lst (vs.toList.map toV))) else some (.frz o (.tup (vs.toList.map toV)))
 |_=>none
def pE(K:PySem.W.Frag)(h:Heap)(A:List Addr):Hp:=fun b=>if b∈A then(if (K.lookup b).isNone=true then(h.get? b).bind hoOf else none) else none
def J9(H:Hp):Prop:=∀b,H b=none∨∃o u,H b=some (.frz o u)
theorem gi(vs:List Value):hoOf { cls:=.type "list",data:=.seq vs.toArray }=some (.frz { cls:=.type "list",data:=.seq vs.toArray } (.lst (vs.map toV))):=by
 show(if (Value.type "list"==Value.type "list")=true then some (HO.frz { cls:=.type "list",data:=.seq vs.toArray } (.lst (vs.toArray.toList.map toV))) else some (HO.frz { cls:=.type "list",data:=.seq vs.toArray } (.tup (vs.toArray.toList.map toV))))=_
 rw[if_pos (beq_self_eq_true _)]
theorem cb(vs:List Value):hoOf { cls:=.type "tuple",data:=.seq vs.toArray }=some (.frz { cls:=.type "tuple",data:=.seq vs.toArray } (.tup (vs.map toV))):=by
 show(if (Value.type "tuple"==Value.type "list")=true then some (HO.frz { cls:=.type "tuple",data:=.seq vs.toArray } (.lst (vs.toArray.toList.map toV))) else some (HO.frz { cls:=.type "tuple",data:=.seq vs.toArray } (.tup (vs.toArray.toList.map toV))))=_
 rw[if_neg (by decide)]
section
variable{P:Program}{w:World}{K:PySem.W.Frag}{h:Heap}{A:List Addr}
theorem ZI{b:Addr}{o:Obj}(hb:b∈A)(hk:K.lookup b=none)(e:h.get? b=some o):pE K h A b=hoOf o:=by
 unfold pE;rw[if_pos hb,hk,if_pos (show(none:Option Obj).isNone=true from rfl),e] <;> rfl
theorem Ie{b:Addr}{u:HO}(q:pE K h A b=some u):b∈A∧K.lookup b=none:=by
 unfold pE at q
 by_cases hb:b∈A
 ·rw[if_pos hb] at q
  cases hk:K.lookup b with
  |none=>exact⟨hb,rfl⟩
  |some o=>
   rw[hk,if_neg (by simp)] at q;cases q
 ·rw[if_neg hb] at q;cases q
theorem ZL(ar:∀a∈A,tM h A a){b:Addr}{u:HO}(q:pE K h A b=some u):K.lookup b=none∧∃vs:List Value,vs.length≤sizeLine∧(∀u∈vs,OkU A u)∧
  ((h.get? b=some { cls:=.type "list",data:=.seq vs.toArray }∧u=.frz { cls:=.type "list",data:=.seq vs.toArray } (.lst (vs.map toV)))∨
  (h.get? b=some { cls:=.type "tuple",data:=.seq vs.toArray }∧u=.frz { cls:=.type "tuple",data:=.seq vs.toArray } (.tup (vs.map toV)))):=by
 obtain⟨hb,hk⟩:=Ie q;obtain⟨vs,h1,h2,h3⟩:=ar b hb;refine⟨hk,vs,h1,h2,?_⟩
 rcases h3 with e |e
 ·rw[ZI hb hk e,gi] at q;exact .inl ⟨e,(Option.some.inj q).symm⟩
 ·rw[ZI hb hk e,cb] at q;exact .inr ⟨e,(Option.some.inj q).symm⟩
theorem zb(ar:∀a∈A,tM h A a):J9 (pE K h A):=fun b=>by
 cases q:pE K h A b with
 |none=>exact .inl rfl
 |some u=>
  obtain⟨_,vs,_,_,⟨_,e⟩ |⟨_,e⟩⟩:=ZL ar q
  ·exact .inr ⟨_,_,by rw[e]⟩
  ·exact .inr ⟨_,_,by rw[e]⟩
theorem Ho(ar:∀a∈A,tM h A a):HOk P w (pE K h A) h:=fun b u q=>by
 obtain⟨_,vs,h1,h2,⟨e,rfl⟩ |⟨e,rfl⟩⟩:=ZL ar q
 ·exact⟨e,by rw[List.length_map];exact h1,vs,_,xU h2,e⟩
 ·exact⟨e,by rw[List.length_map];exact h1,vs,xU h2,_,e,rfl,_,rfl⟩
theorem ZK{c c':Value}{vs us:List Value}(e:(some { cls:=c,data:=.seq vs.toArray }:Option Obj)=some { cls:=c',data:=.seq us.toArray }):c=c'∧vs=us:=by
 have e1:=Option.some.inj e;have e2:c=c':=congrArg Obj.cls e1;have e3:Data.seq vs.toArray=Data.seq us.toArray:=congrArg Obj.data e1
 injection e3 with e4
 refine⟨e2,?_⟩;have e5:=congrArg Array.toList e4;simpa using e5
theorem argL(KX:K.In h)(ar:∀a∈A,tM h A a){a:Addr}{vs:List Value}(ha:a∈A)(e:h.get? a=some { cls:=.type "list",data:=.seq vs.toArray }):(∀u∈vs,OkU A u)∧SqL K (pE K h A) a (vs.map toV):=by
 obtain⟨us,h1,h2,h3⟩:=ar a ha;have hu:us=vs:=by
  rcases h3 with q |q
  ·rw[e] at q;exact(ZK q).2.symm
  ·rw[e] at q;exact absurd (Value.type.inj (ZK q).1) (by decide)
 subst hu;refine⟨h2,?_⟩
 cases hk:K.lookup a with
 |none=>exact .inl (.inr ⟨_,by rw[ZI ha hk e,gi]⟩)
 |some o=>
  have e2:=KX a o hk;rw[e] at e2;obtain rfl:=Option.some.inj e2;exact .inr ⟨_,us.toArray,_,hk,rfl,rfl,rfl,by rw[List.size_toArray];exact h1,by simpa using xU h2⟩
theorem argT(KX:K.In h)(ar:∀a∈A,tM h A a){a:Addr}{vs:List Value}(ha:a∈A)(e:h.get? a=some { cls:=.type "tuple",data:=.seq vs.toArray }):(∀u∈vs,OkU A u)∧SqT K (pE K h A) a (vs.map toV):=by
 obtain⟨us,h1,h2,h3⟩:=ar a ha;have hu:us=vs:=by
  rcases h3 with q |q
  ·rw[e] at q;exact absurd (Value.type.inj (ZK q).1) (by decide)
  ·rw[e] at q;exact(ZK q).2.symm
 subst hu;refine⟨h2,?_⟩
 cases hk:K.lookup a with
 |none=>exact .inl (.inr ⟨_,by rw[ZI ha hk e,cb]⟩)
 |some o=>
  have e2:=KX a o hk;rw[e] at e2;obtain rfl:=Option.some.inj e2;exact .inr ⟨_,us.toArray,_,hk,rfl,rfl,by rw[List.size_toArray];exact h1,by simpa using xU h2⟩
mutual
theorem dw_one{Pm:Params}(KX:K.In h)(ar:∀a∈A,tM h A a):∀(d:WData) (v:Value),Well Pm h v d→plW d=true→OkU A v→Dw K (pE K h A) (toV v) d
 |.none,_,x,_,_=>by
  cases x;exact .non
 |.bool b,_,x,_,_=>by
  cases x;exact .bl b
 |.int i,_,x,_,_=>by
  cases x;exact .int i
 |.str s,_,x,_,_=>by
  cases x;exact .str s
 |.bytes b,_,x,_,_=>by
  cases x;have z:=Dw.byt (K:=K) (H:=pE K h A) b.toArray;exact z
 |.list ds,_,x,p,hu=>by
  obtain⟨a,vs,rfl,ho,hall⟩:=S4 x;obtain⟨h2,hs⟩:=argL KX ar hu ho;exact .lst hs (F6 KX ar ds _ hall p h2)
 |.tuple ds,_,x,p,hu=>by
  obtain⟨a,vs,rfl,ho,hall⟩:=I0 x;obtain⟨h2,hs⟩:=argT KX ar hu ho;exact .tup hs (F6 KX ar ds _ hall p h2)
 |.float _,_,_,p,_=>Bool.noConfusion (show false=true from p)
 |.dict _,_,_,p,_=>Bool.noConfusion (show false=true from p)
 |.bytearray _,_,_,p,_=>Bool.noConfusion (show false=true from p)
 |.set _,_,_,p,_=>Bool.noConfusion (show false=true from p)
 |.frozenset _,_,_,p,_=>Bool.noConfusion (show false=true from p)
 |.obj _ _,_,_,p,_=>Bool.noConfusion (show false=true from p)
theorem F6{Pm:Params}(KX:K.In h)(ar:∀a∈A,tM h A a):∀(ds:List WData) (vs:List Value),WellAll Pm h vs ds→AO ds=true→(∀u∈vs,OkU A u)→tG K (pE K h A) (vs.map toV) ds
 |[],_,x,_,_=>by
  cases x;exact .nil
 |d::ds,_,x,p,hu=>by
  obtain⟨v,vs,rfl,x1,x2⟩:=U6 x;have q:plW d=true∧AO ds=true:=Bool.and_eq_true_iff.mp p;exact .cons (dw_one KX ar d v x1 q.1 (hu _ (List.mem_cons_self ..))) (F6 KX ar ds vs x2 q.2 fun u m=>hu u (List.mem_cons_of_mem _ m))
end
end
theorem zl{P:Program}{w:World}{K:PySem.W.Frag}{mg mb:Str→Option Value}{CX:CXT}{k:Nat}{fa:Addr}{fd:FuncData}{ps:List Str}{sp:Sp}{s₁:Shared}{vals:List Value}{ds:List WData}{R:PySem.W.WRecords}{cl:Str→Option Addr}{d0:WData}
  (KX:K.In s₁.heap) (hns:s₁.heap.Ns mainGlobals mg) (hb:s₁.heap.Ns builtinsNs mb) (hbb:∀x:Str,x≠"__name__"→mb x=bootBuiltins x) (hlim:s₁.heap.NoLimit) (hg:s₁.gens=#[])
  (hwl:WellAll w.params s₁.heap vals ds) (hpl:AO ds=true) (hwt:∀d∈ds,d.weight≤1048576) (hr:lE k callerA)
  (F:∀aT:Heap,K.In aT→aT.Ns mainGlobals mg→bK P w K mg aT CX k fa fd ps sp) (hbind:∀(s:Shared) (us:List Value),us.length=ps.length→BindsTo s fd ⟨us,[]⟩ (ps.zip us)) (hlen:ds.length=ps.length)
  (hsp:∀(H:Hp) (xs:List V),J9 H→tG K H xs ds→sp xs H (fun v H'=>Dw K H' v d0) fun _ _ _=>False)
  (hCX:∀H e s',CX [] H s₁ (fun _ _ _=>False) e s'→False):
  codeAny (model P w) callerA (.call (.ref fa) ⟨vals,[]⟩) (fun r s'=>∃u as,r=.ok (.ret u)∧ReadsW R cl s'.heap u d0 as∧OldK s₁.heap s'.heap∧s'.os=s₁.os∧AllBare s'.gens) s₁:=by
 obtain⟨A,ho,ar⟩:=RY ds vals hwl hpl hwt;have hO:J9 (pE K s₁.heap A):=zb ar;have hok:HOk P w (pE K s₁.heap A) s₁.heap:=Ho ar;have hS:=F6 KX ar ds vals hwl hpl ho;have hV:=xU ho;have hK:∀b u,pE K s₁.heap A b=some u→K.lookup b=none:=fun b u q=>(ZL ar q).1;have noA:∀{b:Addr} {o:Obj} {es:Array DictEntry} {ep:Nat},s₁.heap.get? b=some o→o.data=.dict es ep→pE K s₁.heap A b=none:=fun {b o es ep} e d=>by
  cases q:pE K s₁.heap A b with
  |none=>rfl
  |some u=>
   obtain⟨_,vs,_,_,⟨e2,_⟩ |⟨e2,_⟩⟩:=ZL ar q
   ·rw[e2] at e;cases e;have d':Data.seq vs.toArray _=Data.dict es ep:=d;cases d'
   ·rw[e2] at e;cases e;have d':Data.seq vs.toArray _=Data.dict es ep:=d;cases d'
 generalize pE K s₁.heap A=H at hO hok hS hK noA;have base_of:∀{b:Addr} {o:Obj},s₁.heap.get? b=some o→H b=none→(QO s₁.heap H).get? b=some o:=fun e n=>Dv e n;have nsK:∀{b:Addr} {m:Str→Option Value},s₁.heap.Ns b m→(QO s₁.heap H).Ns b m:=fun {b m} ⟨o,es,ep,e,d,r⟩=>⟨o,es,ep,base_of e (noA e d),d,r⟩;have nK:∀b o,K.lookup b=some o→H b=none:=fun b o e=>by
  cases q:H b with
  |none=>rfl
  |some u=>
   rw[hK b u q] at e;cases e
 have hKb:K.In (QO s₁.heap H):=fun b o e=>base_of (KX b o e) (nK b o e)
 have hM:Mod K mg (QO s₁.heap H):=⟨hKb,nsK hns,⟨mb,nsK hb,hbb⟩,let ⟨mc,h1,h2⟩:=hlim;⟨mc,nsK h1,h2⟩⟩
 have e0:t8 P w K mg (QO s₁.heap H) callerA [] s₁ H:=⟨rfl,hM,fun b o e=>Gi e,Nat.le_of_eq (zp _ _),trivial,fun b hb=>absurd (show b∈([]:List Addr) from hb) (by simp),hok,.of_eq hg⟩;have hl:vals.length=ps.length:=by rw[yQ hwl];exact hlen
 refine codeAny_mono ((F _ hKb (nsK hns)).run callerA [] s₁ H ⟨vals,[]⟩ vals (vals.map toV) _ _ hr e0 (hbind s₁ vals hl) hV (hsp H _ hO hS)) fun r s' x=>?_
 cases r with
 |error e=>exact(hCX H e s' x).elim
 |ok fl=>
  cases fl with
  |next=>exact False.elim x
  |brk=>exact False.elim x
  |cont=>exact False.elim x
  |ret u=>
   obtain⟨v,H',os,lR,un,hok',r',q⟩:=x;have fD:∀b o,s₁.heap.get? b=some o→s'.heap.get? b=some o:=fun b o e=>by
    cases q2:H b with
    |none=>exact un.keep b o e q2 (by intro z;exact absurd (show b∈([]:List Addr) from z) (by simp)) (by simp)
    |some u2=>
     rcases hO b with z |⟨ob,u3,z⟩
     ·rw[q2] at z;cases z
     ·have z2:=un.KE b ob _ z;obtain⟨e1,_⟩:=hok b _ z;obtain⟨e2,_⟩:=hok' b _ z2;rw[e] at e1;cases e1;exact e2
   have KX':K.In s'.heap:=fun b o e=>fD b o (KX b o e);obtain⟨as,hrd⟩:=Dw.ba (R:=R) (cl:=cl) hok' KX' d0 v u q r';exact⟨u,as,rfl,hrd,OldK.of_keep fD,os,lR⟩
theorem M6{ds:List WData}(h:WData.layableAll ds=true):∀d∈ds,d.weight≤1048576:=fun d hd=>
 (PySem.W.layableW_iff.mp (List.all_eq_true.mp h d hd)).2.2
theorem J3:∀(cs:List Codec) (a:Codec.denoteAll cs),(Codec.encAll cs a).length=cs.length
 |[],_=>rfl
 |c::cs,a=>by
  show(Codec.encAll cs a.2).length+1=cs.length+1;rw[J3 cs a.2]
theorem Ab{r:OpenSpec}{k:Nat}{q:Program}{loose:List Str}{XP:(Str→Option Value)→Heap→Prop}{YP:World→Heap→Prop}{d:DefRec}{K:Params→PySem.W.Frag}{CX:World→CXT}{ps:List Str}{sp:World→Sp}
  (hwell:r.wellSaid=true) (hdf:d.params.defaults=[]) (hlen:r.args.length=ps.length) (hr:lE k callerA)
  (hY:∀(w:World) (h:Heap),YP w h→(K w.params).In h)
  (F:∀(w:World) (mg:Str→Option Value) (fa:Addr) (h:Heap),YP w h→(K w.params).In h→h.Ns mainGlobals mg→mg d.name=some (.ref fa)→
   ∃fd:FuncData,(∀(s:Shared) (us:List Value),us.length=ps.length→BindsTo s fd ⟨us,[]⟩ (ps.zip us))∧
    ∀aT:Heap,(K w.params).In aT→aT.Ns mainGlobals mg→bK r.prog w (K w.params) mg aT (CX w) k fa fd ps (sp w))
  (hsp:∀(w:World) (H:Hp) (xs:List V) (a:Codec.denoteAll r.args),J9 H→Codec.withinAll r.args a=true→Codec.app r.args r.asked a=true→tG (K w.params) H xs (Codec.encAll r.args a)→
   sp w xs H (fun v H'=>Dw (K w.params) H' v (r.ret.enc (Codec.app r.args r.f a))) fun _ _ _=>False)
  (hCX:∀(w:World) (H:Hp) (s:Shared) (e:Value) (s':Shared),CX w [] H s (fun _ _ _=>False) e s'→False):
  PySem.W.WalkOS q loose XP YP r d [] (fun f vs=>PySem.call f vs):=by
 intro w s_0 s₁ mg mb G Y fa o pm cd doc dV kV ho hd hcd hD hmg hg args vals as hpre hlay hrd hwl hlo;obtain⟨a,e1,e2⟩:=PySem.W.os_pre_some hpre;obtain⟨e3,hwi⟩:=Codec.encAll_of_decAll r.args args a e1;subst e3;have KX:=hY w _ Y;obtain⟨fd,hb,hF⟩:=F w mg fa _ Y KX G.T.g hmg;refine PySem.W.enter_call (codeAny_mono (zl (R:=[]) (cl:=classAt s_0.heap) (d0:=r.ret.enc (Codec.app r.args r.f a)) KX G.T.g G.T.b G.T.builtins G.T.nolimit hg hwl (V3 _ _) (M6 hlay) hr hF hb (by rw[J3];exact hlen)
  (fun H xs hO hS=>hsp w H xs a hO hwi e2 hS) fun H e s'=>hCX w H s₁ e s') fun r' s' hq=>?_)
 obtain⟨u,as',rfl,h1,h2,h3,h4⟩:=hq;exact⟨.inl ⟨u,_,as',rfl,fun _=>rfl,h1,(OpenSpec.post_iff hwell hwi _ _).mpr rfl,fun z=>Bool.noConfusion (show false=true from z)⟩,h2,h3,h4⟩
theorem uz{r:OpenSpec}{k:Nat}{q:Program}{loose:List Str}{XP:(Str→Option Value)→Heap→Prop}{YP:World→Heap→Prop}{d:DefRec}{K:Params→PySem.W.Frag}{CX:CXT}{ps:List Str}{sp:PySem.W.Frag→Sp}
  (hwell:r.wellSaid=true) (hdf:d.params.defaults=[]) (hlen:r.args.length=ps.length) (hr:lE k callerA)
  (hY:∀(w:World) (h:Heap),YP w h→(K w.params).In h)
  (F:∀(w:World) (mg:Str→Option Value) (fa:Addr) (h:Heap),YP w h→(K w.params).In h→h.Ns mainGlobals mg→mg d.name=some (.ref fa)→
   ∃fd:FuncData,(∀(s:Shared) (us:List Value),us.length=ps.length→BindsTo s fd ⟨us,[]⟩ (ps.zip us))∧
    ∀aT:Heap,(K w.params).In aT→aT.Ns mainGlobals mg→bK r.prog w (K w.params) mg aT CX k fa fd ps (sp (K w.params)))
  (hsp:∀(K:PySem.W.Frag) (H:Hp) (xs:List V) (a:Codec.denoteAll r.args),J9 H→Codec.withinAll r.args a=true→Codec.app r.args r.asked a=true→tG K H xs (Codec.encAll r.args a)→
   sp K xs H (fun v H'=>Dw K H' v (r.ret.enc (Codec.app r.args r.f a))) fun _ _ _=>False)
  (hCX:∀(H:Hp) (s:Shared) (e:Value) (s':Shared),CX [] H s (fun _ _ _=>False) e s'→False):
  PySem.W.WalkOS q loose XP YP r d [] (fun f vs=>PySem.call f vs):=
 Ab (K:=K) (CX:=fun _=>CX) (sp:=fun w=>sp (K w.params)) hwell hdf hlen hr hY F (fun w H xs a h1 h2 h3 h4=>hsp (K w.params) H xs a h1 h2 h3 h4) fun _ H s e s'=>hCX H s e s'
end L2
namespace L2
open PySem PySem.Spec PyProof.Rows
def iK(s:Stmt)(j:Nat):Stmt:=match s with
 |.ClassDef _ _ _ body _ _ _ _ _ _ _=>body.getD j (.Pass ⟨0,0,0,0⟩)
 |_=>.Pass ⟨0,0,0,0⟩
def oO(s:Stmt):Arguments:=match s with
 |.FunctionDef _ a _ _ _ _ _ _ _ _=>a
 |_=>{ posonlyargs:=[],args:=[],vararg:=none,kwonlyargs:=[],kw_defaults:=[],kwarg:=none,defaults:=[] }
def mN(s:Stmt):List Stmt:=match s with
 |.FunctionDef _ _ b _ _ _ _ _ _ _=>b
 |_=>[]
def aR(s:Stmt):Scope:=match s with
 |.FunctionDef _ _ _ _ _ _ sc _ _ _=>sc
 |_=>{ kind:=.function,names:=[],isGenerator:=false,isCoroutine:=false }
abbrev CX0:CXT:=fun _ _ _ _ _ _=>False
abbrev E0:XK:=fun _ _ _=>False
theorem gK{X:Cx}:CW CX0 X E0:=fun _ _ _ _ _ _ _ h=>h.elim
structure Fun(K:PySem.W.Frag)(x qual:Str)(st:Stmt)(f:Addr)(fd:FuncData):Prop where
 ex:∃(oc:Value) (od:Option Addr) (kV doc pm:Value) (an:Option Addr) (cdv ct:Value) (osl:Array (Option Value)),
  fd=PySem.W.fnOf x qual (oO st) (mN st) (aR st) .none kV doc pm an cdv ct∧K.lookup f=some ⟨oc,od,.func fd,osl⟩∧PySem.W.codeIn K cdv qual=true
 kp:PySem.W.keepIn K (.ref f)=true
section
variable{P:Program}{w:World}{K:PySem.W.Frag}{mg:Str→Option Value}{aT:Heap}
theorem Fun.ok{x qual:Str}{st:Stmt}{f:Addr}{fd:FuncData}{N ps:List Str}{k:Nat}{sp:Sp}(F:Fun K x qual st f fd)(S:bC N ps (aR st))(len:∀vs H Q E,sp vs H Q E→vs.length=ps.length)
  (hbody:∀(cdv:Value) (A:Around) (bF:List Env) (s:Shared) (H:Hp) (vs:List V) (Q:VK) (E:XK),lE k (A.deeper (envOfC qual (aR st) s.heap.objs.size f cdv))→sp vs H Q E→
   ∃t,PSs (cxOf CX0 P w K mg aT N qual (aR st) f cdv A bF s H E).nox (mN st) t∧t { nx:=fun _ H'=>Q .non H',rt:=Q } (start N vs) H):bK P w K mg aT CX0 (k+1) f fd ps sp:=by
 obtain⟨oc,od,kV,doc,pm,an,cdv,ct,osl,rfl,lk,hcd⟩:=F.ex;refine bX lk hcd S len fun A bF s H vs Q E hr hsp=>?_;obtain⟨t,h,q⟩:=hbody cdv A bF s H vs Q E hr hsp;exact⟨t,h.nox,q⟩
theorem Fun.OC{x qual:Str}{st:Stmt}{f:Addr}{fd:FuncData}{ps:List Str}(F:Fun K x qual st f fd)
  (h:∀(kV doc pm:Value) (an:Option Addr) (cdv ct:Value) (us:List Value),us.length=ps.length→bindArgs (PySem.W.fnOf x qual (oO st) (mN st) (aR st) .none kV doc pm an cdv ct) ⟨us,[]⟩=pure (ps.zip us)):bM K fd ps []:=by
 obtain⟨oc,od,kV,doc,pm,an,cdv,ct,osl,rfl,lk,hcd⟩:=F.ex;exact .all (h kV doc pm an cdv ct)
theorem cq{x qual:Str}{st:Stmt}{f:Addr}{oc:Value}{od an:Option Addr}{osl:Array (Option Value)}{kV doc pm cdv ct:Value}(l:K.lookup f=some ⟨oc,od,.func (PySem.W.fnOf x qual (oO st) (mN st) (aR st) .none kV doc pm an cdv ct),osl⟩)
  (c:PySem.W.codeIn K cdv qual=true) (k:PySem.W.keepIn K (.ref f)=true):Fun K x qual st f (PySem.W.fnOf x qual (oO st) (mN st) (aR st) .none kV doc pm an cdv ct):=⟨⟨oc,od,kV,doc,pm,an,cdv,ct,osl,rfl,l,c⟩,k⟩
end
section
variable{X:Cx}
theorem pv(i:Nat){x:Str}{pos:Pos}(hN:X.N[i]? =some x:=by rfl)(hv:Vis X.env.scope x:=by first |exact Or.inl rfl |exact Or.inr (Or.inl rfl) |exact Or.inr (Or.inr rfl))(hd:(x==("__debug__":Str))=false:=by decide)
  (hcd:(x==("__classdict__":Str))=false:=by decide):PE X (.Name x pos) (fZ i):=pe_var hN hv hd hcd
end
def aX(H H':Hp):Prop:=∀b o,H b=some o→H' b=some o
theorem aX.trans{H H1 H2:Hp}(a:aX H H1)(b:aX H1 H2):aX H H2:=fun c o h=>b c o (a c o h)
theorem aX.free{H H':Hp}(e:aX H H'){l:Addr}(h:H' l=Option.none):H l=Option.none:=by
 cases q:H l with
 |none=>rfl
 |some o=>
  rw[e l o q] at h;cases h
theorem aX.seq{K:PySem.W.Frag}{H H':Hp}{a:Addr}{xs:List V}(e:aX H H')(h:SqL K H a xs):SqL K H' a xs:=by
 rcases h with(h |⟨o,h⟩) |h
 ·exact .inl (.inl (e _ _ h))
 ·exact .inl (.inr ⟨o,e _ _ h⟩)
 ·exact .inr h
theorem nd_ix{α:Type}{l:List α}(hN:l.Nodup){i j:Nat}{x:α}(a:l[i]? =some x)(b:l[j]? =some x):i=j:=by
 obtain⟨h1,e1⟩:=List.getElem?_eq_some_iff.mp a;obtain⟨h2,e2⟩:=List.getElem?_eq_some_iff.mp b;exact(List.getElem_inj hN).mp (e1.trans e2.symm)
theorem aX.made{H H1:Hp}{x dx C:Addr}(nx:H x=Option.none)(nd:H dx=Option.none)(k:∀b o,(upd (upd H dx (.own x)) x (.ins C dx [])) b=some o→b≠x→H1 b=some o):aX H H1:=fun b o e=>
 k b o (by rw[bA (bN e nx),bA (bN e nd)];exact e) (bN e nx)
end L2
end
namespace L2
open PySem PySem.Spec PyProof.Rows
section
variable{X:Cx}
def min3(a b c:Int):Int:=if b < a then(if c < b then c else b) else(if c < a then c else a)
def rMin3:List V→Hp→VK→Prop:=fun xs H Q=>∃a b c,xs=[.int a,.int b,.int c]∧Q (.int (min3 a b c)) H
theorem vals3{x y z:V}{us:List Value}(r:cR [x,y,z] us):∃u v w,us=[u,v,w]∧dZ x u∧dZ y v∧dZ z w:=by
 cases r with
 |cons a r=>cases r with
  |cons b r=>cases r with
   |cons c r=>cases r;exact⟨_,_,_,rfl,a,b,c⟩
theorem Ck(hc:X.uM=true):tJ X (.builtin "min") rMin3:=by
 intro pins s σ H xs us Q I r h;obtain⟨a,b,c,rfl,q⟩:=h;obtain⟨u,v,w',rfl,⟨t,rfl⟩,⟨t',rfl⟩,⟨t'',rfl⟩⟩:=vals3 r;refine min_three_ints (I.ok.hd hc) fun h' tk k=>⟨_,H,I.fD k,?_,q⟩;unfold min3
 by_cases h1:b < a
 ·rw[if_pos h1,if_pos h1]
  by_cases h2:c < b
  ·rw[if_pos h2,if_pos h2];exact⟨_,rfl⟩
  ·rw[if_neg h2,if_neg h2];exact⟨_,rfl⟩
 ·rw[if_neg h1,if_neg h1]
  by_cases h2:c < a
  ·rw[if_pos h2,if_pos h2];exact⟨_,rfl⟩
  ·rw[if_neg h2,if_neg h2];exact⟨_,rfl⟩
def Bb(K:PySem.W.Frag):V→List V→Hp→VK→Prop:=fun x xs H Q=>∃(l:Addr) (ns:List Int) (k:Int),x=.ref l∧xs=[.int k]∧SqL K H l (ns.map V.int)∧Q (.int (ns.count k:Nat)) H
theorem Ff:MtR X "list.count" (Bb X.K):=by
 intro pins s σ H x xs v us Q I rx rxs h;obtain⟨l,ns,k,rfl,rfl,hs,q⟩:=h;cases rx;obtain⟨u,rfl,⟨t,rfl⟩⟩:=az rxs;obtain⟨its,rv,pl,hlen⟩:=I.list hs;exact count_list_ints pl.isList (cR.ints rv) ⟨.int (ns.count k:Nat),H,I.tok _,⟨_,rfl⟩,q⟩
end
theorem iX.back{P:Program}{w:World}{H H':Hp}{h h0:Heap}{a:Addr}{o:HO}(x:iX P w H' h a o)(x0:iX P w H h0 a o):iX P w H h a o:=by
 induction o with
 |lst xs=>exact x
 |tup xs=>exact x
 |dK kvs=>exact x
 |set S n=>exact x
 |ins C dx fs=>exact⟨x0.1,x.2⟩
 |own y=>exact x
 |xd fs=>exact x
 |rng lo hi=>exact x
 |frz ob u ih=>exact⟨x.1,ih x.2 x0.2⟩
 |tbl ps=>exact x
 |met f y=>exact x
 |ext φ=>exact x
theorem HOk.back{P:Program}{w:World}{H H':Hp}{h h0:Heap}(x:HOk P w H' h)(x0:HOk P w H h0)(s:aX H H'):HOk P w H h:=fun a o e=>(x a o (s a o e)).back (x0 a o e)
theorem aX.rfl'{H:Hp}:aX H H:=fun _ _ h=>h
theorem Inv.back{X:Cx}{pins:List (Addr×Obj)}{σ σ':St}{H H':Hp}{s s':Shared}(I:Inv X pins σ H s)(I':Inv X pins σ' H' s')(sm:aX H H'):Inv X pins σ' H s':=by
 have no:∀{b:Addr},H' b=none→H b=none:=fun {b} e=>sm.free e;refine⟨I'.ok,I'.os,I'.lR,⟨I'.aT.keep,I'.aT.sS,fun b o e n hx=>no (I'.aT.free b o e n hx),I'.aT.kH,I.aT.OB,I.aT.KE,I.aT.SA⟩,I'.loc,I'.cell,no I'.free,fun x c e=>no (I'.tI x c e),fun p hp=>?_,I'.hok.back I.hok sm,I'.len⟩;obtain⟨e,n,ne,nf,d⟩:=I'.pin p hp;exact⟨e,no n,ne,nf,d⟩
def ZA(t:TE):TE:=fun σ H Q=>∃v,t σ H (fun v' H'=>v'=v∧aX H H')∧Q v H
def jw(t:TT):TT:=fun σ H Q=>∃b,t σ H (fun b' H'=>b'=b∧aX H H')∧Q b H
section
variable{X:Cx}
theorem kJ{e:Expr}{t:TE}(h:PE X e t):PE X e (ZA t):=fun pins s σ H Q I ⟨v,hv,q⟩=>
 thn (h pins s σ H _ I hv) fun u s1 ⟨x,H1,I1,r,e1,sm⟩=>⟨v,H,I.back I1 sm,by rw[←e1];exact r,q⟩
theorem Gk{e:Expr}{t:TT}(h:PT X e t):PT X e (jw t):=fun pins s σ H Q I ⟨v,hv,q⟩=>
 thn (h pins s σ H _ I hv) fun u s1 ⟨H1,I1,e1,sm⟩=>⟨H,I.back I1 sm,by rw[e1];exact q⟩
end
def spP(R:List V→Hp→V→Prop):Sp:=fun vs H Q _=>∃v,R vs H v∧Q v H
def spS(R:List V→Hp→V→Prop):Sp:=fun vs H Q _=>∃v,R vs H v∧∀H',aX H H'→Q v H'
theorem bK.pure{P:Program}{w:World}{K:PySem.W.Frag}{mg:Str→Option Value}{aT:Heap}{k:Nat}{f:Addr}{fd:FuncData}{ps:List Str}{R:List V→Hp→V→Prop}(F:bK P w K mg aT CX0 k f fd ps (spS R)):bK P w K mg aT CX0 k f fd ps (spP R):=by
 refine⟨fun vs H Q E ⟨v,hv,q⟩=>F.len vs H (fun _ _=>True) E ⟨v,hv,fun _ _=>trivial⟩,fun A bF s H args us vs Q E hr he hb hv ⟨v,hR,q⟩=>?_⟩;refine codeAny_mono (F.run A bF s H args us vs (fun v' H'=>v'=v∧aX H H') E hr he hb hv ⟨v,hR,fun H' sm=>⟨rfl,sm⟩⟩) fun r s' h=>?_
 cases r with
 |error e=>exact h
 |ok fl=>
  cases fl with
  |next=>exact h
  |brk=>exact h
  |cont=>exact h
  |ret u=>
   obtain⟨v',H',os,lR,un,hok,rv,e,sm⟩:=h;subst e;exact⟨v',H,os,lR,⟨un.keep,un.sS,fun _ _ _ n _=>n,un.kH,fun _ _ e=>e,fun _ _ _ e=>e,fun _ ps e=>⟨#[],by rw[e];simp⟩⟩,hok.back he.hok sm,rv,q⟩
def EV(t:TE)(σ:St)(H:Hp)(v:V):Prop:=∀Q:VK,Q v H→t σ H Q
def ET(t:TT)(σ:St)(H:Hp)(b:Bool):Prop:=∀Q:Bool→Hp→Prop,Q b H→t σ H Q
def EA(t:TA)(σ:St)(H:Hp)(vs:List V):Prop:=∀Q:List V→Hp→Prop,Q vs H→t σ H Q
section
variable{K:PySem.W.Frag}{σ:St}{H:Hp}{ta tb tc:TE}{t u:TT}{tl:TA}{i j:Int}{a b:Bool}{v x y:V}{p C dx:Addr}{fs:List (Str×V)}{f:Str}
theorem aA{k:Nat}(h:σ[k]? =some (some v)):EV (fZ k) σ H v:=fun Q q=>⟨v,h,q⟩
theorem aO:EV (tC v) σ H v:=fun Q q=>q
theorem aJ(he:EV ta σ H (.ref p))(h:H p=some (.ins C dx fs))(c:Cls K C)(n:bY K C f)(l:fs.lookup f=some v):EV (lS K ta f) σ H v:=fun Q q=>he _ ⟨p,C,dx,fs,v,rfl,h,c,n,l,q⟩
theorem bU{g:Int→Int→V}(ha:EV ta σ H (.int i))(hb:EV tb σ H (.int j)):EV (tOp (rI0 g) ta tb) σ H (g i j):=fun Q q=>ha _ (hb _ ⟨i,j,rfl,rfl,q⟩)
theorem pC{D:Int→Int→Prop}{g:Int→Int→V}(ha:EV ta σ H (.int i))(hb:EV tb σ H (.int j))(hc:D i j):EV (tOp (rI D g) ta tb) σ H (g i j):=fun Q q=>ha _ (hb _ ⟨i,j,rfl,rfl,hc,q⟩)
theorem cP(ha:EV ta σ H (.int i))(hb:EV tb σ H (.int j)):EV (tOp rEq ta tb) σ H (.bl (decide (i=j))):=fun Q q=>ha _ (hb _ ⟨rfl,by
 have e:decide (V.int i=V.int j)=decide (i=j):=by simp
 rw[e];exact q⟩)
theorem uk(ha:EV ta σ H (.int i))(hb:EV tb σ H (.int j)):EV (tOp rNe ta tb) σ H (.bl (!decide (i=j))):=fun Q q=>ha _ (hb _ ⟨rfl,by
 have e:decide (V.int i=V.int j)=decide (i=j):=by simp
 rw[e];exact q⟩)
theorem ic(ha:EV ta σ H (.bl a)):EV (tNotV ta) σ H (.bl (!a)):=fun Q q=>ha _ ⟨a,rfl,q⟩
theorem zH(ha:EV ta σ H (.bl a))(hb:a=true→EV tb σ H (.bl b)):EV (yj ta tb) σ H (.bl (a&&b)):=fun Q q=>ha _ ⟨a,rfl,by
 cases a with
 |true=>rw[if_pos rfl];exact hb rfl Q q
 |false=>rw[if_neg Bool.false_ne_true];exact q⟩
theorem ev_or(ha:EV ta σ H (.bl a))(hb:a=false→EV tb σ H (.bl b)):EV (tOrV ta tb) σ H (.bl (a||b)):=fun Q q=>ha _ ⟨a,rfl,by
 cases a with
 |true=>rw[if_pos rfl];exact q
 |false=>rw[if_neg Bool.false_ne_true];exact hb rfl Q q⟩
theorem E7(hc:ET t σ H a)(h1:a=true→EV ta σ H x)(h2:a=false→EV tb σ H y):EV (tIf t ta tb) σ H (if a=true then x else y):=fun Q q=>hc _ (by
 cases a with
 |true=>rw[if_pos rfl] at q ⊢;exact h1 rfl Q q
 |false=>rw[if_neg Bool.false_ne_true] at q ⊢;exact h2 rfl Q q)
theorem bB(h:EV ta σ H (.bl a)):ET (qW ta) σ H a:=fun Q q=>h _ ⟨a,rfl,q⟩
theorem dX(h:EV ta σ H (.bl a)):ET (tB ta) σ H a:=fun Q q=>h _ ⟨a,rfl,q⟩
theorem rU(h:ET t σ H a):ET (tNot t) σ H (!a):=fun Q q=>h _ q
theorem oR(h:ET t σ H a)(h2:a=true→ET u σ H b):ET (tAnd t u) σ H (a&&b):=fun Q q=>h _ (by
 cases a with
 |true=>rw[if_pos rfl];exact h2 rfl Q q
 |false=>rw[if_neg Bool.false_ne_true];exact q)
theorem lF(h:ET t σ H a)(h2:a=false→ET u σ H b):ET (tOr t u) σ H (a||b):=fun Q q=>h _ (by
 cases a with
 |true=>rw[if_pos rfl];exact q
 |false=>rw[if_neg Bool.false_ne_true];exact h2 rfl Q q)
theorem cS{xs:List V}(ha:EV ta σ H (.ref p))(hb:EV tb σ H (.int i))(hs:SqL K H p xs)(hv:atI xs i=some v):EV (tOp (rIxL K) ta tb) σ H v:=fun Q q=>ha _ (hb _ ⟨p,xs,i,v,rfl,rfl,hs,hv,q⟩)
theorem ev_ixt{xs:List V}(ha:EV ta σ H (.ref p))(hb:EV tb σ H (.int i))(hs:SqT K H p xs)(hv:atI xs i=some v):EV (tOp (rIxT K) ta tb) σ H v:=fun Q q=>ha _ (hb _ ⟨p,xs,i,v,rfl,rfl,hs,hv,q⟩)
theorem aL:EA eU σ H []:=fun Q q=>q
theorem aD{vs:List V}(h:EV ta σ H v)(h2:EA tl σ H vs):EA (dD ta tl) σ H (v::vs):=fun Q q=>h _ (h2 _ q)
theorem bb{r:List V→Hp→VK→Prop}{vs:List V}(ha:EA tl σ H vs)(h:∀Q:VK,Q v H→r vs H Q):EV (tCB r tl) σ H v:=fun Q q=>ha _ (h Q q)
def rLen(K:PySem.W.Frag):List V→Hp→VK→Prop:=fun xs H Q=>∃p ys,xs=[.ref p]∧(SqL K H p ys∨SqT K H p ys)∧Q (.int ys.length) H
theorem cM{X:Cx}:tJ X (.builtin "len") (rLen X.K):=di
theorem eT{xs:List V}(ha:EV ta σ H (.ref p))(hs:SqL K H p xs):EV (tCB (rLen K) (dD ta eU)) σ H (.int (xs.length:Int)):=
 bb (aD ha aL) fun Q q=>⟨p,xs,rfl,.inl hs,q⟩
theorem E9(ha:EV ta σ H (.int i))(hb:EV tb σ H (.int j)):EV (tCB (fun xs H Q=>∃i j,xs=[.int i,.int j]∧Q (.int (if j < i then j else i)) H) (dD ta (dD tb eU))) σ H (.int (if j < i then j else i)):=
 bb (aD ha (aD hb aL)) fun Q q=>⟨i,j,rfl,q⟩
theorem Hv{k:Int}(ha:EV ta σ H (.int i))(hb:EV tb σ H (.int j))(hc:EV tc σ H (.int k)):EV (tCB rMin3 (dD ta (dD tb (dD tc eU)))) σ H (.int (min3 i j k)):=
 bb (aD ha (aD hb (aD hc aL))) fun Q q=>⟨i,j,k,rfl,q⟩
theorem Fn{ns:List Int}(ha:EV ta σ H (.ref p))(hb:EV tb σ H (.int i))(hs:SqL K H p (ns.map V.int)):EV (tBM K "list" (Bb K) ta (dD tb eU)) σ H (.int (ns.count i:Nat)):=
 fun Q q=>ha _ ⟨.inl ⟨rfl,_,hs⟩,hb _ ⟨p,ns,i,rfl,rfl,hs,q⟩⟩
theorem bI{R:List V→Hp→V→Prop}{E:XK}{vs:List V}(ha:EA tl σ H vs)(h:R vs H v):EV (jH (spP R) [] E tl) σ H v:=fun Q q=>ha _ ⟨v,by rw[List.append_nil];exact h,q⟩
theorem ZT(h:ta σ H (fun v' H'=>v'=v∧aX H H')):EV (ZA ta) σ H v:=fun Q q=>⟨v,h,q⟩
theorem Hg(h:t σ H (fun v' H'=>v'=a∧aX H H')):ET (jw t) σ H a:=fun Q q=>⟨a,h,q⟩
variable{D:lB}{st su:TS}
theorem dO(h:EV ta σ H v)(q:D.rt v H):GF ta D σ H:=h _ q
theorem cI{k:Nat}(h:EV ta σ H v)(q:D.nx (σ.set k (some v)) H):IM ta (dB k) D σ H:=h _ q
theorem cD(h:ET t σ H a)(h1:a=true→st D σ H)(h2:a=false→su D σ H):tIfS t st su D σ H:=h _ (by
 cases a with
 |true=>rw[if_pos rfl];exact h1 rfl
 |false=>rw[if_neg Bool.false_ne_true];exact h2 rfl)
theorem cN(hv:EV tb σ H y)(ho:EV ta σ H (.ref p))(h:H p=some (.ins C dx fs))(c:Cls K C)(n:bY K C f)(hl:fs.length < 1000)(q:D.nx σ (upd H p (.ins C dx (cC f y fs)))):MS K ta tb f D σ H:=hv _ (ho _ ⟨p,C,dx,fs,rfl,h,c,n,hl,q⟩)
end
theorem aX.upd{H:Hp}{l:Addr}{o:HO}(n:H l=Option.none):aX H (upd H l o):=fun b o' e=>by rw[bA (bN e n)];exact e
def dN(mg:Str→Option Value)(x:Str)(i:Int):Prop:=∃t,mg x=some (Value.int i t)
theorem aV{X:Cx}{x:Str}{i:Int}{pos:Pos}(hg:Gl X x)(hm:dN X.mg x i)(hd:(x==("__debug__":Str))=false:=by decide):PE X (.Name x pos) (tC (.int i)):=by
 obtain⟨t,e⟩:=hm;exact qh hg e ⟨t,rfl⟩ hd
theorem take_snoc'{α:Type}:∀{l:List α} {i:Nat} {x:α},l[i]? =some x→l.take (i+1)=l.take i++[x]
 |[],i,x,h=>by simp at h
 |a::l,0,x,h=>by
  have e:a=x:=Option.some.inj h;subst e;rfl
 |a::l,i+1,x,h=>by
  have ih:=take_snoc' (l:=l) (i:=i) (x:=x) h;show a::l.take (i+1)=a::l.take i++[x];rw[ih];rfl
def fD(rs:List (Bool×V)):List V:=(rs.filter (·.1)).map (·.2)
theorem HC{rs:List (Bool×V)}{k:Nat}{r:Bool×V}(h:rs[k]? =some r):fD (rs.take (k+1))=fD (rs.take k)++(if r.1=true then [r.2] else []):=by
 unfold fD;rw[take_snoc' h,List.filter_append,List.map_append];congr 1;cases e:r.1 <;> simp[e]
theorem MW(rs:List (Bool×V))(k:Nat):(fD (rs.take k)).length≤k:=by
 unfold fD;rw[List.length_map];exact Nat.le_trans (List.length_filter_le _ _) (by rw[List.length_take];omega)
theorem mC{α:Type}(f:α→V)(l:List α):fD (l.map fun a=>(true,f a))=l.map f:=by
 unfold fD
 induction l with
 |nil=>rfl
 |cons a l ih=>simp only[List.map_cons,List.filter_cons,if_true];rw[ih]
theorem oV{α:Type}(p:α→Bool)(f:α→V)(l:List α):fD (l.map fun a=>(p a,f a))=(l.filter p).map f:=by
 unfold fD
 induction l with
 |nil=>rfl
 |cons a l ih=>
  simp only[List.map_cons,List.filter_cons];cases p a <;> simp[ih]
theorem jq{α β:Type}{xs:List α}{rs:List β}{k:Nat}{x:α}(hl:rs.length=xs.length)(h:xs[k]? =some x):∃r,rs[k]? =some r:=
 ⟨_,List.getElem?_eq_getElem (by rw[hl];exact(List.getElem?_eq_some_iff.mp h).1)⟩
section
variable{K:PySem.W.Frag}{σ:St}{H:Hp}{tl te:TE}{tt:TT}{i j:Nat}{xs:List V}{a:Addr}{rs:List (Bool×V)}{Q:VK}
theorem iB(hl:EV tl σ H (.ref a))(hs:SqL K H a xs)(hz:xs.length≤sizeLine)(hrs:rs.length=xs.length)
  (hb:∀(k:Nat) (x:V) (r:Bool×V),xs[k]? =some x→rs[k]? =some r→∀H',aX H H'→ET tt ((σ.set i none).set i (some x)) H' r.1∧(r.1=true→EV te ((σ.set i none).set i (some x)) H' r.2))
  (q:∀D H',H D=none→aX H H'→H' D=some (.lst (fD rs))→Q (.ref D) H'):tLc (am K tl) (dB i) tt te [i] σ H Q:=by
 refine hl _ ⟨a,rfl,⟨xs,hs⟩,fun D hD=>qz (K:=K) (a:=a) (xs:=xs) (Qd:=fun H'=>Q (.ref D) H') (fun k H'=>aX H H'∧H' D=some (.lst (fD (rs.take k)))) ⟨aX.upd hD,aH⟩ (fun k H' _ p=>p.1.seq hs) ?_ ?_⟩
 ·rintro k x H' hx ⟨sm,hD'⟩;obtain⟨r,hr⟩:=jq hrs hx;obtain⟨h1,h2⟩:=hb k x r hx hr H' sm;refine⟨by show(((σ.set i none).set i (some x)).set i none)=σ.set i none;rw[List.set_set,List.set_set],h1 _ ?_⟩;have st:=HC hr
  cases e:r.1 with
  |false=>
   rw[if_neg Bool.false_ne_true];rw[e,if_neg Bool.false_ne_true,List.append_nil] at st;exact⟨sm,by rw[st];exact hD'⟩
  |true=>
   rw[if_pos rfl];rw[e,if_pos rfl] at st;refine h2 e _ ⟨_,hD',?_,?_,?_⟩
   ·exact Nat.lt_of_le_of_lt (MW rs k) (Nat.lt_of_lt_of_le (List.getElem?_eq_some_iff.mp hx).1 hz)
   ·intro b o eb;rw[bA (bN eb hD)];exact sm b o eb
   ·rw[aH,st]
 ·rintro H' ⟨sm,hD'⟩;rw[←hrs,List.take_length] at hD';exact q D H' hD sm hD'
theorem Am{ti:TI}(hi:∀R:It→Hp→Prop,(∀H1,aX H H1→SqT K H1 a xs→R (Itt K a) H1)→ti σ H R)(hsT:∀H1 H2,aX H1 H2→SqT K H1 a xs→SqT K H2 a xs)(hz:xs.length≤sizeLine)(hrs:rs.length=xs.length)
  (hb:∀(k:Nat) (x:V) (r:Bool×V),xs[k]? =some x→rs[k]? =some r→∀H',aX H H'→ET tt ((σ.set i none).set i (some x)) H' r.1∧(r.1=true→EV te ((σ.set i none).set i (some x)) H' r.2))
  (q:∀D H',H D=none→aX H H'→H' D=some (.lst (fD rs))→Q (.ref D) H'):tLc ti (dB i) tt te [i] σ H Q:=by
 refine hi _ fun H1 s1 hs D hD=>lc_tup (K:=K) (a:=a) (xs:=xs) (Qd:=fun H'=>Q (.ref D) H') (fun k H'=>aX H1 H'∧H' D=some (.lst (fD (rs.take k)))) ⟨aX.upd hD,aH⟩ (fun k H' _ p=>hsT _ _ p.1 hs) ?_ ?_
 ·rintro k x H' hx ⟨sm,hD'⟩;obtain⟨r,hr⟩:=jq hrs hx;obtain⟨h1,h2⟩:=hb k x r hx hr H' (s1.trans sm);refine⟨by show(((σ.set i none).set i (some x)).set i none)=σ.set i none;rw[List.set_set,List.set_set],h1 _ ?_⟩;have st:=HC hr
  cases e:r.1 with
  |false=>
   rw[if_neg Bool.false_ne_true];rw[e,if_neg Bool.false_ne_true,List.append_nil] at st;exact⟨sm,by rw[st];exact hD'⟩
  |true=>
   rw[if_pos rfl];rw[e,if_pos rfl] at st;refine h2 e _ ⟨_,hD',?_,?_,?_⟩
   ·exact Nat.lt_of_le_of_lt (MW rs k) (Nat.lt_of_lt_of_le (List.getElem?_eq_some_iff.mp hx).1 hz)
   ·intro b o eb;rw[bA (bN eb hD)];exact sm b o eb
   ·rw[aH,st]
 ·rintro H' ⟨sm,hD'⟩;rw[←hrs,List.take_length] at hD';exact q D H' (s1.free hD) (s1.trans sm) hD'
theorem ML{ta:TA}(hij:i≠j)(hl:EA ta σ H [.ref a])(hs:SqL K H a xs)(hz:xs.length≤sizeLine)(hrs:rs.length=xs.length)
  (hb:∀(k:Nat) (x:V) (r:Bool×V),xs[k]? =some x→rs[k]? =some r→∀H',aX H H'→ET tt ((((σ.set j none).set i none).set i (some (.int (k:Nat)))).set j (some x)) H' r.1∧(r.1=true→EV te ((((σ.set j none).set i none).set i (some (.int (k:Nat)))).set j (some x)) H' r.2))
  (q:∀D H',H D=none→aX H H'→H' D=some (.lst (fD rs))→Q (.ref D) H'):tLc (xm K ta) (z8 K 2 (sJ (dB i) (sJ (dB j) q5))) tt te [i,j] σ H Q:=by
 refine hl _ ⟨a,xs,rfl,hs,fun D hD=>?_⟩;refine⟨fun k m H'=>m=xs.length - k∧k≤xs.length∧aX H H'∧H' D=some (.lst (fD (rs.take k))),⟨xs.length,by simp,Nat.zero_le _,aX.upd hD,aH⟩,?_⟩;rintro k m H' ⟨rfl,hk,sm,hD'⟩;have hs':SqL K H' a xs:=sm.seq hs
 by_cases hlt:k < xs.length
 ·refine .inr ⟨⟨xs,xs[k],hs',by simp[hlt]⟩,fun H2=>aX H H2∧H2 D=some (.lst (fD (rs.take (k+1)))),fun H2 p=>⟨xs.length - (k+1),by omega,rfl,hlt,p⟩,?_⟩;rintro x H2 ⟨T,y,rfl,nT,rfl,hy⟩;have hx:=hy xs hs';obtain⟨r,hr⟩:=jq hrs hx;have sm2:aX H (upd H' T (.tup [.int (k:Nat),y])):=fun b o eb=>by rw[bA (bN (sm b o eb) nT)];exact sm b o eb
  have hD2:(upd H' T (.tup [.int (k:Nat),y])) D=some (.lst (fD (rs.take k))):=by rw[bA (bN hD' nT)];exact hD'
  obtain⟨h1,h2⟩:=hb k y r hx hr _ sm2;refine⟨T,[.int (k:Nat),y],rfl,SqT.of aH,rfl,_,_,rfl,_,_,rfl,rfl,?_,?_⟩
  ·show((((((σ.set j none).set i none).set i (some (V.int (k:Nat)))).set j (some y)).set j none).set i none)=((σ.set j none).set i none);rw[List.set_set,List.set_set,List.set_comm (i:=i) (j:=j) _ _ hij,List.set_set,List.set_set]
  ·refine h1 _ ?_;have st:=HC hr
   cases e:r.1 with
   |false=>
    rw[if_neg Bool.false_ne_true];rw[e,if_neg Bool.false_ne_true,List.append_nil] at st;exact⟨sm2,by rw[st];exact hD2⟩
   |true=>
    rw[if_pos rfl];rw[e,if_pos rfl] at st;refine h2 e _ ⟨_,hD2,?_,?_,?_⟩
    ·exact Nat.lt_of_le_of_lt (MW rs k) (Nat.lt_of_lt_of_le hlt hz)
    ·intro b o eb;rw[bA (bN eb hD)];exact sm2 b o eb
    ·rw[aH,st]
 ·have e:k=xs.length:=by omega
  subst e;refine .inl ⟨⟨xs,hs',Nat.le_refl _⟩,q D H' hD sm ?_⟩;rw[←hrs,List.take_length] at hD';exact hD'
theorem Fz{g:TG}{tb:TS}{D:lB}(hg:g=z8 K 2 (sJ (dB i) (sJ (dB j) q5)))(Pv:Nat→St→Hp→Prop)(h0:Pv 0 σ H)(hl:∀k σ H,k≤xs.length→Pv k σ H→SqL K H a xs)
  (hs:∀(k:Nat) x σ H T,xs[k]? =some x→Pv k σ H→H T=none→tb { D with nx:=Pv (k+1),ct:=Pv (k+1),bk:=D.nx } ((σ.set i (some (.int (k:Nat)))).set j (some x)) (upd H T (.tup [.int (k:Nat),x]))) (hd:∀σ H,Pv xs.length σ H→D.nx σ H):
  ∃W:Nat→Nat→St→Hp→Prop,(∃m,W 0 m σ H)∧∀k m σ H,W k m σ H→
   ((Ite K a).vL k H∧D.nx σ H)∨((Ite K a).go k H∧∃N:St→Hp→Prop,(∀σ' H',N σ' H'→∃m',m' < m∧W (k+1) m' σ' H')∧∀x H',(Ite K a).yld k H x H'→g x σ H' fun σ2 H2=>tb { D with nx:=N,ct:=N,bk:=D.nx } σ2 H2):=by
 subst hg;refine⟨fun k m σ H=>m=xs.length - k∧k≤xs.length∧Pv k σ H,⟨xs.length,by simp,Nat.zero_le _,h0⟩,?_⟩;rintro k m σ H ⟨rfl,hk,p⟩;have q:=hl k σ H hk p
 by_cases hlt:k < xs.length
 ·refine .inr ⟨⟨xs,xs[k],q,by simp[hlt]⟩,Pv (k+1),fun σ' H' p'=>⟨xs.length - (k+1),by omega,rfl,hlt,p'⟩,?_⟩;rintro x H' ⟨T,y,rfl,nT,rfl,hy⟩;exact⟨T,[.int (k:Nat),y],rfl,SqT.of aH,rfl,_,_,rfl,_,_,rfl,rfl,hs k y σ H T (hy xs q) p nT⟩
 ·have e:k=xs.length:=by omega
  subst e;exact .inl ⟨⟨xs,q,Nat.le_refl _⟩,hd σ H p⟩
end
section
variable{K:PySem.W.Frag}{σ:St}{H:Hp}{tl:TE}
theorem LG{ns:List Int}(h:∀Q:VK,(∀D H',H D=none→aX H H'→H' D=some (.lst (ns.map V.int))→Q (.ref D) H')→tl σ H Q):EV (ZA (tCB (rSum K) (dD tl eU))) σ H (.int ns.sum):=
 ZT (h _ fun D H' _ sm e=>⟨D,ns,rfl,SqL.of e,rfl,sm⟩)
theorem VG{bs:List Bool}(h:∀Q:VK,(∀D H',H D=none→aX H H'→H' D=some (.lst (bs.map V.bl))→Q (.ref D) H')→tl σ H Q):EV (ZA (tCB (rAny K) (dD tl eU))) σ H (.bl (bs.any id)):=
 ZT (h _ fun D H' _ sm e=>⟨D,bs,rfl,SqL.of e,rfl,sm⟩)
end
section
variable{K:PySem.W.Frag}{σ:St}{H:Hp}{te:TE}{tt:TT}{i:Nat}{rs:List (Bool×V)}{Q:VK}
theorem i5{ta:TA}{n:Nat}(hl:EA ta σ H [.int ((n:Nat):Int)])(hz:n≤1000)(hrs:rs.length=n)
  (hb:∀(k:Nat) (r:Bool×V),k < n→rs[k]? =some r→∀H',aX H H'→ET tt ((σ.set i none).set i (some (.int ((k:Nat):Int)))) H' r.1∧(r.1=true→EV te ((σ.set i none).set i (some (.int ((k:Nat):Int)))) H' r.2))
  (q:∀D H',H D=none→aX H H'→H' D=some (.lst (fD rs))→Q (.ref D) H'):tLc (vd ta) (dB i) tt te [i] σ H Q:=by
 refine hl _ ⟨((n:Nat):Int),rfl,by omega,by omega,fun D hD=>?_⟩;rw[Int.toNat_natCast];refine Eg (Qd:=fun H'=>Q (.ref D) H') (fun k H'=>aX H H'∧H' D=some (.lst (fD (rs.take k)))) ⟨aX.upd hD,aH⟩ ?_ ?_
 ·rintro k H' hk ⟨sm,hD'⟩;have hr:rs[k]? =some (rs[k]'(by omega)):=List.getElem?_eq_getElem (by omega);generalize rs[k]'(by omega)=r at hr;obtain⟨h1,h2⟩:=hb k r hk hr H' sm;have e0:(0:Int)+((k:Nat):Int)=((k:Nat):Int):=by omega
  rw[e0];refine⟨by show(((σ.set i none).set i (some (V.int ((k:Nat):Int)))).set i none)=σ.set i none;rw[List.set_set,List.set_set],h1 _ ?_⟩;have st:=HC hr
  cases e:r.1 with
  |false=>
   rw[if_neg Bool.false_ne_true];rw[e,if_neg Bool.false_ne_true,List.append_nil] at st;exact⟨sm,by rw[st];exact hD'⟩
  |true=>
   rw[if_pos rfl];rw[e,if_pos rfl] at st;refine h2 e _ ⟨_,hD',?_,?_,?_⟩
   ·refine Nat.lt_of_le_of_lt (MW rs k) (Nat.lt_of_lt_of_le hk (Nat.le_trans hz (by decide)))
   ·intro b o eb;rw[bA (bN eb hD)];exact sm b o eb
   ·rw[aH,st]
 ·rintro H' ⟨sm,hD'⟩;rw[←hrs,List.take_length] at hD';exact q D H' hD sm hD'
end
end L2
namespace CSP
open PySem PySem.Spec PyProof.Rows L2
section
variable{X:Cx}
theorem pst{i:Nat}{x:Str}{e:Expr}{te:TE}{pos pos':Pos}(hN:X.N.Nodup)(he:PE X e te)(hi:X.N[i]? =some x:=by rfl)(hx:Loc X.env.scope x:=by first |exact Or.inl rfl |exact Or.inr rfl)(hs:swapsWith e (some (.Name x pos')) pos.line X.env=pure false:=by rfl)(hf:X.fn x=true∨X.env.scope.names.lookup x=some .local:=by first |exact .inl rfl |exact .inr rfl |assumption):PS X (.Assign [.Name x pos'] e pos) (IM te (dB i)):=ps_set hN hi hx he hs hf
theorem pgn{i:Nat}{x:Str}{pos:Pos}(hN:X.N.Nodup)(hi:X.N[i]? =some x:=by rfl)(hx:Loc X.env.scope x:=by first |exact Or.inl rfl |exact Or.inr rfl)(hf:X.fn x=true∨X.env.scope.names.lookup x=some .local:=by first |exact .inl rfl |exact .inr rfl |assumption):PG X (.Name x pos) (dB i):=Hx hN hi hx hf
theorem pcl{j k:Nat}{x y q:Str}{st:Stmt}{f:Addr}{fd:FuncData}{ps:List Str}{sp:Sp}{e:Expr}{es:List Expr}{t:TA}{p pos:Pos}(F:bK X.prog X.w X.K X.mg X.aT CX0 k f fd ps sp)(hr:lE j X.A)(hm:X.mg x=some (.ref f))(hk:Fun X.K y q st f fd)(hb:bM X.K fd ps [])(ha:PA X (e::es) t)(hle:k≤j:=by decide)(hg:Gl X x:=by rfl)(hdb:(x==("__debug__":Str))=false:=by decide)(he:starEach (e::es) X.env=(false,eval e X.env)::starEach es X.env:=by rfl)(hpl:(backTo pos (starEach es X.env)).any (·.1)=false:=by rfl):PE X (.Call (.Name x p) (e::es) [] pos) (jH sp [] E0 t):=Hs F (hr.cF hle) hg hm hk.kp hb .nil gK ha hdb he hpl
theorem scO{N P:List Str}{sc:Scope}(h1:sc.kind=.function:=by rfl)(h2:sc.isCoroutine=false:=by rfl)(h3:sc.isGenerator=false:=by rfl)(h4:N.Nodup:=by decide+kernel)(h5:N.take P.length=P:=by rfl)(h6:∀x∈P,sc.names.lookup x=some .local∨sc.names.lookup x=some .cell:=by decide+kernel)(h7:∀y∈sc.names,y.2≠.free:=by decide+kernel):bC N P sc:=⟨h1,h2,h3,h4,h5,h6,h7⟩
end
def AllN:Nat→(List Value→Prop)→Prop
 |0,P=>P []
 |n+1,P=>∀v,AllN n fun l=>P (v::l)
theorem AllN.of:∀{n:Nat} {P:List Value→Prop},AllN n P→∀us:List Value,us.length=n→P us
 |0,_,h,us,e=>by cases us with |nil=>exact h |cons a l=>cases e
 |n+1,_,h,us,e=>by cases us with |nil=>cases e |cons a l=>exact AllN.of (h a) l (Nat.succ.inj e)
def BdH(x qual:Str)(st:Stmt)(ps:List Str):Prop:=∀(kV doc pm:Value) (an:Option Addr) (cdv ct:Value),AllN ps.length fun us=>bindArgs (PySem.W.fnOf x qual (oO st) (mN st) (aR st) .none kV doc pm an cdv ct) ⟨us,[]⟩=pure (ps.zip us)
section
variable{K:PySem.W.Frag}{x qual:Str}{st:Stmt}{f:Addr}{fd:FuncData}{ps:List Str}
theorem _root_.L2.Fun.bdx(F:Fun K x qual st f fd)(h:BdH x qual st ps):bM K fd ps []:=F.OC fun a b c d e g=>(h a b c d e g).of
theorem _root_.L2.Fun.bd1(F:Fun K x qual st f fd)(h:BdH x qual st ps:=by exact fun _ _ _ _ _ _ _=>rfl):bM K fd ps []:=F.bdx h
theorem _root_.L2.Fun.bd2(F:Fun K x qual st f fd)(h:BdH x qual st ps:=by exact fun _ _ _ _ _ _ _ _=>rfl):bM K fd ps []:=F.bdx h
theorem _root_.L2.Fun.bd3(F:Fun K x qual st f fd)(h:BdH x qual st ps:=by exact fun _ _ _ _ _ _ _ _ _=>rfl):bM K fd ps []:=F.bdx h
theorem _root_.L2.Fun.bd4(F:Fun K x qual st f fd)(h:BdH x qual st ps:=by exact fun _ _ _ _ _ _ _ _ _ _=>rfl):bM K fd ps []:=F.bdx h
theorem _root_.L2.Fun.bd5(F:Fun K x qual st f fd)(h:BdH x qual st ps:=by exact fun _ _ _ _ _ _ _ _ _ _ _=>rfl):bM K fd ps []:=F.bdx h
theorem _root_.L2.Fun.bd6(F:Fun K x qual st f fd)(h:BdH x qual st ps:=by exact fun _ _ _ _ _ _ _ _ _ _ _ _=>rfl):bM K fd ps []:=F.bdx h
theorem _root_.L2.Fun.bd9(F:Fun K x qual st f fd)(h:BdH x qual st ps:=by exact fun _ _ _ _ _ _ _ _ _ _ _ _ _ _ _=>rfl):bM K fd ps []:=F.bdx h
end
def top(i:Nat):Stmt:=PySem.Challenge.pw_cruiseship_s01_answers.main.body.getD i (.Pass ⟨0,0,0,0⟩)
abbrev WO:Stmt:=(top 1)
abbrev YH:Stmt:=(top 3)
abbrev FC:Stmt:=(iK (top 10) 0)
abbrev FK:Stmt:=(iK (top 11) 0)
abbrev AV:Stmt:=(iK (top 12) 0)
abbrev zU:Stmt:=(iK (top 13) 0)
abbrev AX:Stmt:=(iK (top 13) 1)
abbrev xN:Stmt:=(top 14)
abbrev wX:Stmt:=(top 15)
abbrev IJ:Stmt:=(top 16)
abbrev sU:Stmt:=(top 17)
abbrev tP:Stmt:=(top 18)
abbrev UM:Stmt:=(top 19)
abbrev tW:Stmt:=(top 20)
abbrev QF:Stmt:=(top 21)
abbrev BK:Stmt:=(top 22)
abbrev gu:Stmt:=(top 23)
abbrev DI:Stmt:=(top 24)
abbrev JZ:Stmt:=(top 25)
abbrev IG:Stmt:=(top 26)
abbrev AA:Stmt:=(top 27)
abbrev yC:Stmt:=(top 28)
abbrev OV:Stmt:=(iK (top 40) 0)
abbrev IL:Stmt:=(iK (top 41) 0)
abbrev HP:Stmt:=(iK (top 41) 1)
abbrev zT:Stmt:=(iK (top 42) 0)
abbrev BM:Stmt:=(iK (top 42) 1)
abbrev OF:Stmt:=(top 43)
abbrev yJ:Stmt:=(top 44)
abbrev wY:Stmt:=(top 45)
abbrev vQ:Stmt:=(top 46)
abbrev qM:Stmt:=(top 47)
abbrev XS:Stmt:=(top 48)
abbrev KT:Stmt:=(top 49)
abbrev vk:Stmt:=(top 50)
abbrev M4:Stmt:=(top 51)
abbrev BA:Stmt:=(top 52)
abbrev VS:Stmt:=(top 53)
abbrev EB:Stmt:=(iK (top 55) 0)
abbrev EM:Stmt:=(iK (top 55) 1)
abbrev ES:Stmt:=(top 56)
abbrev XG:Stmt:=(top 57)
abbrev t4:Stmt:=(top 58)
abbrev ie:Stmt:=(top 59)
abbrev VH:Stmt:=(top 60)
abbrev A0:Stmt:=(top 61)
abbrev so:Stmt:=(top 62)
abbrev tY:Stmt:=(top 63)
abbrev GB:Stmt:=(top 64)
abbrev MX:Stmt:=(iK (top 68) 0)
abbrev QI:Stmt:=(iK (top 69) 0)
abbrev NH:Stmt:=(iK (top 69) 1)
abbrev WR:Stmt:=(top 70)
abbrev DQ:Stmt:=(top 71)
abbrev O9:Stmt:=(top 72)
abbrev v0:Stmt:=(top 73)
abbrev QV:Stmt:=(top 74)
abbrev SH:Stmt:=(top 75)
abbrev KY:Stmt:=(top 76)
abbrev EQ:Stmt:=(top 77)
abbrev uH:Stmt:=(top 78)
abbrev wR:Stmt:=(top 79)
abbrev qN:Stmt:=(top 80)
abbrev HS:Stmt:=(top 83)
abbrev OH:Stmt:=(top 84)
abbrev qU:Stmt:=(top 87)
abbrev OJ:Stmt:=(top 88)
abbrev NV:Stmt:=(top 89)
abbrev NG:Stmt:=(top 90)
abbrev QG:Stmt:=(top 91)
abbrev RQ:Stmt:=(top 98)
abbrev PP:Stmt:=(top 99)
abbrev WD:Stmt:=(top 100)
abbrev VF:Stmt:=(top 101)
abbrev AQ:Stmt:=(top 102)
abbrev II:Stmt:=(top 103)
abbrev OW:Stmt:=(top 104)
abbrev Q4:Stmt:=(top 105)
abbrev w6:Stmt:=(top 110)
abbrev VJ:Stmt:=(top 111)
abbrev OS:Stmt:=(top 112)
abbrev OM:Stmt:=(top 113)
abbrev zP:Stmt:=(top 119)
abbrev YK:Stmt:=(top 120)
abbrev KP:Stmt:=(top 121)
abbrev JU:Stmt:=(top 122)
abbrev p8:Stmt:=(top 123)
abbrev PK:Stmt:=(top 125)
abbrev OG:Stmt:=(top 126)
abbrev HY:Stmt:=(top 127)
abbrev DG:Stmt:=(top 128)
abbrev JV:Stmt:=(top 129)
abbrev x9:Stmt:=(top 130)
abbrev NP:Stmt:=(top 131)
abbrev IA:Stmt:=(top 132)
abbrev PM:Stmt:=(top 133)
abbrev QT:Stmt:=(top 134)
abbrev VN:Stmt:=(top 135)
abbrev JF:Stmt:=(top 170)
abbrev w9:Stmt:=(top 171)
abbrev ff:Stmt:=(top 172)
abbrev BE:Stmt:=(iK (top 174) 0)
abbrev zX:Stmt:=(iK (top 174) 1)
abbrev BP:Stmt:=(iK (top 179) 0)
abbrev NU:Stmt:=(top 180)
abbrev EY:Stmt:=(top 181)
abbrev JR:Stmt:=(top 182)
abbrev XJ:Stmt:=(top 183)
abbrev QY:Stmt:=(top 184)
abbrev MJ:Stmt:=(top 185)
abbrev AE:Stmt:=(top 186)
abbrev XI:Stmt:=(top 188)
theorem RL:bC ["numbers","number"] ["numbers"] (aR WO):=scO
theorem vc:bC ["number","least","most"] ["number","least","most"] (aR YH):=scO
theorem aj:bC ["self","deck","place","rank","berths","flat"] ["self","deck","place","rank","berths","flat"] (aR FC):=scO
theorem ad:bC ["self","first","many","cabin"] ["self","first","many","cabin"] (aR FK):=scO
theorem M0:bC ["self","party","child"] ["self","party","child"] (aR AV):=scO
theorem P1:bC ["self","most"] ["self","most"] (aR zU):=scO
theorem LM:bC ["self","other"] ["self"] (aR AX):=scO
theorem C8:bC ["people"] ["people"] (aR xN):=scO
theorem pL:bC ["people","standing","person","now"] ["people","standing"] (aR wX):=scO
theorem fb:bC ["people"] ["people"] (aR IJ):=scO
theorem UI:bC ["people","person"] ["people","person"] (aR sU):=scO
theorem ZX:bC ["people","party"] ["people","party"] (aR tP):=scO
theorem wc:bC ["party"] ["party"] (aR UM):=scO
theorem BT:bC ["people","person","party"] ["people","person"] (aR tW):=scO
theorem qH:bC ["people","cabin","holders","number","party"] ["people","cabin"] (aR QF):=scO
theorem xT:bC ["people","number"] ["people"] (aR BK):=scO
theorem Q5:bC ["people","number","many","rank","flat","cabin","fits"] ["people","number","many","rank","flat"] (aR gu):=scO
theorem pY:bC ["people","many","rank","flat","best","number","cabin"] ["people","many","rank","flat"] (aR DI):=scO
theorem ek:bC ["cabin","other"] ["cabin","other"] (aR JZ):=scO
theorem DJ:bC ["people","many","children","cabin","party","place"] ["people","many","children","cabin"] (aR IG):=scO
theorem xK:bC ["people","person"] ["people"] (aR AA):=scO
theorem vU:bC ["people","person"] ["people"] (aR yC):=scO
theorem kb:bC ["self","good_to","units"] ["self","good_to","units"] (aR OV):=scO
theorem cf:bC ["self","per","life"] ["self","per","life"] (aR IL):=scO
theorem VP:bC ["self","other"] ["self"] (aR HP):=scO
theorem O4:bC ["self","room"] ["self","room"] (aR zT):=scO
theorem rZ:bC ["self","other","good"] ["self"] (aR BM):=scO
theorem JT:bC ["good","lot"] ["good"] (aR OF):=scO
theorem vP:bC ["stores","good"] ["stores"] (aR yJ):=scO
theorem tT:bC ["stores","good"] ["stores"] (aR wY):=scO
theorem A5:bC ["stores","number"] ["stores","number"] (aR vQ):=scO
theorem RT:bC ["good","day"] ["good","day"] (aR qM):=scO
theorem NE:bC ["good","good_to","lot"] ["good","good_to"] (aR XS):=scO
theorem wG:bC ["good","good_to","units","together","newest"] ["good","good_to","units"] (aR KT):=scO
theorem LQ:bC ["good","wanted","left","kept","lot","taken"] ["good","wanted"] (aR vk):=scO
theorem EN:bC ["good","day","lot"] ["good","day"] (aR M4):=scO
theorem xY:bC ["good","aboard","day","other_day","ahead","each"] ["good","aboard","day","other_day"] (aR BA):=scO
theorem H0:bC ["stores","aboard","new_day","good"] ["stores","aboard","new_day"] (aR VS):=scO
theorem X6:bC ["self","uses","fresh_most","makes","grey_most","black_most"] ["self","uses","fresh_most","makes","grey_most","black_most"] (aR EB):=scO
theorem TL:bC ["self","other"] ["self"] (aR EM):=scO
theorem X0:bC ["tanks"] ["tanks"] (aR ES):=scO
theorem tw:bC ["tanks","litres"] ["tanks","litres"] (aR XG):=scO
theorem Ag:bC ["tanks","miles","knots"] ["tanks","miles","knots"] (aR t4):=scO
theorem He:bC ["tanks","miles"] ["tanks","miles"] (aR ie):=scO
theorem yh:bC ["used"] ["used"] (aR VH):=scO
theorem XT:bC ["tanks","grey_room","black_room"] ["tanks"] (aR A0):=scO
theorem At:bC ["tanks","wanted","used"] ["tanks","wanted"] (aR so):=scO
theorem ZU:bC ["tanks","aboard"] ["tanks","aboard"] (aR tY):=scO
theorem X1:bC ["tanks","miles","knots","aboard"] ["tanks","miles","knots","aboard"] (aR GB):=scO
theorem ka:bC ["self","hours","miles","knots"] ["self","hours","miles","knots"] (aR MX):=scO
theorem nh:bC ["self","last_day"] ["self","last_day"] (aR QI):=scO
theorem k0:bC ["self","other"] ["self"] (aR NH):=scO
theorem OL:bC ["way","leg"] ["way"] (aR WR):=scO
theorem X5:bC ["way"] ["way"] (aR DQ):=scO
theorem Ew:bC ["way"] ["way"] (aR O9):=scO
theorem zF:bC ["way","hour","end","number","leg"] ["way","hour"] (aR v0):=scO
theorem l6:bC ["way","hour","number"] ["way","hour"] (aR QV):=scO
theorem c9:bC ["way","hour","number"] ["way","hour"] (aR SH):=scO
theorem fj:bC ["way"] ["way"] (aR KY):=scO
theorem ag:bC ["way"] ["way"] (aR EQ):=scO
theorem lC:bC ["way","hour","begin","leg","end"] ["way","hour"] (aR uH):=scO
theorem DZ:bC ["way","tomorrow"] ["way"] (aR wR):=scO
theorem pG:bC ["way","number","leg"] ["way"] (aR qN):=scO
theorem wL:bC ["vessel","way","aboard","lacks"] ["vessel"] (aR HS):=scO
theorem qG:bC ["vessel","n","way","later_before","lacks","each"] ["vessel","n"] (aR OH):=scO
theorem vH:bC ["vessel","good","aboard"] ["vessel","good"] (aR qU):=scO
theorem yV:bC ["vessel","g","good","port_day","lacks"] ["vessel","g"] (aR OJ):=scO
theorem sW:bC ["vessel","goods","short","number","good"] ["vessel"] (aR NV):=scO
theorem qD:bC ["vessel","way","tanks","aboard","hours","hour"] ["vessel"] (aR NG):=scO
theorem KB:bC ["vessel","n","ahead","gone_by"] ["vessel","n"] (aR QG):=scO
theorem yS:bC ["vessel","many","children","rank","flat","people","cabin","first"] ["vessel","many","children","rank","flat"] (aR RQ):=scO
theorem qF:bC ["vessel","party","people","leaving","person"] ["vessel","party"] (aR PP):=scO
theorem SC:bC ["vessel","opened","people","before"] ["vessel","opened"] (aR WD):=scO
theorem F4:bC ["vessel","card","people"] ["vessel","card"] (aR VF):=scO
theorem M9:bC ["people","person"] ["people","person"] (aR AQ):=scO
theorem dd:bC ["people","person"] ["people","person"] (aR II):=scO
theorem f9:bC ["vessel","people"] ["vessel"] (aR OW):=scO
theorem y9:bC ["vessel","p","people","minute"] ["vessel","p"] (aR Q4):=scO
theorem W6:bC ["vessel","hours","miles","knots","way"] ["vessel","hours","miles","knots"] (aR w6):=scO
theorem L6:bC ["vessel","per","life","goods"] ["vessel","per","life"] (aR VJ):=scO
theorem KF:bC ["cabins","deck","place","cabin"] ["cabins","deck","place"] (aR OS):=scO
theorem j6:bC ["vessel","deck","place","rank","berths","flat","cabins"] ["vessel","deck","place","rank","berths","flat"] (aR OM):=scO
theorem P6:bC ["stores","good","n"] ["stores","good","n"] (aR zP):=scO
theorem CH:bC ["vessel","g","n","stores","good","good_to"] ["vessel","g","n"] (aR YK):=scO
theorem YE:bC ["vessel","n","tanks"] ["vessel","n"] (aR KP):=scO
theorem YT:bC ["vessel","grey","black","tanks"] ["vessel","grey","black"] (aR JU):=scO
theorem XV:bC ["vessel","making","grey","black","tanks","before"] ["vessel","making","grey","black"] (aR p8):=scO
theorem yY:bC ["vessel","way","in_port","leaving"] ["vessel"] (aR PK):=scO
theorem IH:bC ["vessel","people","ready"] ["vessel"] (aR OG):=scO
theorem DT:bC ["vessel","people","aboard"] ["vessel"] (aR HY):=scO
theorem TK:bC ["vessel","missing"] ["vessel"] (aR DG):=scO
theorem FX:bC ["vessel","people","persons"] ["vessel"] (aR JV):=scO
theorem XB:bC ["vessel","card","people","ashore"] ["vessel","card"] (aR x9):=scO
theorem JE:bC ["vessel","p","people","party"] ["vessel","p"] (aR NP):=scO
theorem rN:bC ["vessel","people","free","staying","party"] ["vessel"] (aR IA):=scO
theorem j9:bC ["vessel","g","good"] ["vessel","g"] (aR PM):=scO
theorem KI:bC ["vessel","tanks","aboard"] ["vessel"] (aR QT):=scO
theorem vO:bC ["vessel","people","tanks","gone","loaded"] ["vessel"] (aR VN):=scO
theorem im:bC ["call"] ["call"] (aR JF):=scO
theorem Ae:bC ["vessel","call","numbers"] ["vessel","call","numbers"] (aR w9):=scO
theorem Gw:bC ["vessel","call","numbers"] ["vessel","call","numbers"] (aR ff):=scO
theorem R1:bC ["self","way","people","tanks","stores"] ["self","way","people","tanks","stores"] (aR BE):=scO
theorem N2:bC ["self"] ["self"] (aR zX):=scO
theorem L8:bC ["self"] ["self"] (aR BP):=scO
theorem yR:bC ["voyage","most","uses","fresh","makes","grey","black","room","last","tanks","litres"] ["voyage","most","uses","fresh","makes","grey","black","room","last"] (aR NU):=scO
theorem zW:bC ["voyage","call","numbers","changed","answer"] ["voyage","call","numbers"] (aR EY):=scO
theorem bw:bC ["voyage"] ["voyage"] (aR JR):=scO
theorem xk:bC ["voyage"] ["voyage"] (aR XJ):=scO
theorem og:bC ["voyage"] ["voyage"] (aR QY):=scO
theorem yX:bC ["voyage","vessel","way","counts"] ["voyage"] (aR MJ):=scO
theorem R0:bC ["voyage","call","numbers"] ["voyage","call","numbers"] (aR AE):=scO
theorem mT:bC ["calls","voyage","answered","at","call","behind","answer"] ["calls"] (aR XI):=scO
set_option genInjectivity false in
set_option genSizeOf false in
structure bL where
 iR:Addr
 mM:Addr
 lT:Addr
 dC:Addr
 oX:Addr
 eW:Addr
 nH:Addr
 dI:Addr
 qX:Addr
 kN:Addr
 iP:Addr
 eK:Addr
 YQ:Addr
 WE:FuncData
 XR:Addr
 VD:FuncData
 CY:Addr
 DK:FuncData
 DR:Addr
 EW:FuncData
 AS:Addr
 zR:FuncData
 AY:Addr
 BQ:FuncData
 zO:Addr
 zN:FuncData
 xJ:Addr
 xP:FuncData
 vV:Addr
 xA:FuncData
 JG:Addr
 HW:FuncData
 sR:Addr
 sQ:FuncData
 uI:Addr
 tV:FuncData
 XY:Addr
 WF:FuncData
 uA:Addr
 uD:FuncData
 MT:Addr
 QE:FuncData
 BJ:Addr
 BN:FuncData
 gc:Addr
 dk:FuncData
 FV:Addr
 DA:FuncData
 IP:Addr
 KC:FuncData
 HL:Addr
 JM:FuncData
 AJ:Addr
 AD:FuncData
 xW:Addr
 yB:FuncData
 PZ:Addr
 MG:FuncData
 HZ:Addr
 HM:FuncData
 JO:Addr
 KM:FuncData
 BI:Addr
 BL:FuncData
 AR:Addr
 BB:FuncData
 RN:Addr
 QX:FuncData
 yG:Addr
 yO:FuncData
 wO:Addr
 vI:FuncData
 vT:Addr
 wU:FuncData
 qR:Addr
 qP:FuncData
 XE:Addr
 VQ:FuncData
 IY:Addr
 KS:FuncData
 tu:Addr
 wy:FuncData
 P5:Addr
 M8:FuncData
 AU:Addr
 AG:FuncData
 YC:Addr
 WY:FuncData
 DO:Addr
 EH:FuncData
 GA:Addr
 EE:FuncData
 FZ:Addr
 EG:FuncData
 UK:Addr
 YV:FuncData
 z9:Addr
 r6:FuncData
 ij:Addr
 jk:FuncData
 UR:Addr
 VW:FuncData
 A9:Addr
 o8:FuncData
 ue:Addr
 wz:FuncData
 uG:Addr
 uN:FuncData
 DY:Addr
 FU:FuncData
 OP:Addr
 OI:FuncData
 PY:Addr
 RD:FuncData
 RA:Addr
 OY:FuncData
 WN:Addr
 WA:FuncData
 ER:Addr
 EJ:FuncData
 Q2:Addr
 O7:FuncData
 u5:Addr
 t9:FuncData
 NT:Addr
 PN:FuncData
 NJ:Addr
 RZ:FuncData
 HQ:Addr
 HN:FuncData
 DW:Addr
 FJ:FuncData
 tQ:Addr
 uF:FuncData
 vD:Addr
 vJ:FuncData
 qQ:Addr
 qV:FuncData
 KZ:Addr
 KU:FuncData
 OO:Addr
 MM:FuncData
 qL:Addr
 qO:FuncData
 MY:Addr
 OD:FuncData
 QK:Addr
 ON:FuncData
 NF:Addr
 RX:FuncData
 RB:Addr
 QW:FuncData
 ME:Addr
 OQ:FuncData
 SB:Addr
 QU:FuncData
 WX:Addr
 XO:FuncData
 WB:Addr
 YO:FuncData
 BD:Addr
 AF:FuncData
 JC:Addr
 ID:FuncData
 RK:Addr
 SF:FuncData
 Q1:Addr
 O1:FuncData
 A2:Addr
 x8:FuncData
 UH:Addr
 XQ:FuncData
 OT:Addr
 MQ:FuncData
 MN:Addr
 SE:FuncData
 zZ:Addr
 AH:FuncData
 WC:Addr
 WL:FuncData
 IZ:Addr
 IK:FuncData
 JX:Addr
 JB:FuncData
 u6:Addr
 m9:FuncData
 QS:Addr
 QB:FuncData
 MO:Addr
 RI:FuncData
 JQ:Addr
 LA:FuncData
 DS:Addr
 GG:FuncData
 IR:Addr
 KQ:FuncData
 t7:Addr
 A1:FuncData
 RC:Addr
 PU:FuncData
 JH:Addr
 KH:FuncData
 NO:Addr
 RS:FuncData
 NQ:Addr
 NI:FuncData
 YR:Addr
 UF:FuncData
 JW:Addr
 KO:FuncData
 z6:Addr
 u9:FuncData
 gx:Addr
 je:FuncData
 AK:Addr
 AL:FuncData
 AC:Addr
 AW:FuncData
 zQ:Addr
 AB:FuncData
 PB:Addr
 MU:FuncData
 EK:Addr
 FI:FuncData
 JN:Addr
 KG:FuncData
 XM:Addr
 YD:FuncData
 OX:Addr
 NB:FuncData
 SG:Addr
 RU:FuncData
 zY:Addr
 BH:FuncData
 UY:Addr
 U1:FuncData
 tS:Addr
structure Txt(K:PySem.W.Frag)(mg:Str→Option Value)(n:bL):Prop where
 Ic:mg "Cabin"=some (.ref n.iR)
 iC:Cls K n.iR
 Dz:Mk K n.iR n.CY
 tN:bY K n.iR "deck"
 rW:bY K n.iR "place"
 jG:bY K n.iR "rank"
 kL:bY K n.iR "berths"
 tK:bY K n.iR "flat"
 Gn:mg "Party"=some (.ref n.mM)
 lU:Cls K n.mM
 Eh:Mk K n.mM n.DR
 jS:bY K n.mM "first"
 pS:bY K n.mM "many"
 oI:bY K n.mM "cabin"
 Dk:mg "Person"=some (.ref n.lT)
 zD:Cls K n.lT
 ze:Mk K n.lT n.AS
 nE:bY K n.lT "party"
 rA:bY K n.lT "child"
 jg:mg "People"=some (.ref n.dC)
 aY:Cls K n.dC
 V1:Mk K n.dC n.AY
 jQ:bY K n.dC "most"
 eX:bY K n.dC "cabins"
 dL:bY K n.dC "parties"
 dP:bY K n.dC "persons"
 dA:bY K n.dC "standing"
 fE:bY K n.dC "minutes"
 gA:bY K n.dC "gate"
 fM:bY K n.dC "drill"
 gZ:bY K n.dC "gone_out"
 iE:bY K n.dC "come_in"
 fY:bY K n.dC "not_counted"
 N9:JL K n.dC "twin" n.zO
 m_Lot:mg "Lot"=some (.ref n.oX)
 pW:Cls K n.oX
 Bh:Mk K n.oX n.PZ
 jT:bY K n.oX "good_to"
 jA:bY K n.oX "units"
 Cp:mg "Good"=some (.ref n.eW)
 dE:Cls K n.eW
 rl:Mk K n.eW n.HZ
 qK:bY K n.eW "per"
 rK:bY K n.eW "life"
 fA:bY K n.eW "lots"
 iT:bY K n.eW "loaded"
 kX:bY K n.eW "eaten"
 jP:bY K n.eW "spoilt"
 iA:bY K n.eW "lacked"
 VL:JL K n.eW "twin" n.JO
 bp:mg "Stores"=some (.ref n.nH)
 gF:Cls K n.nH
 T7:Mk K n.nH n.BI
 oP:bY K n.nH "room"
 eA:bY K n.nH "goods"
 N6:JL K n.nH "twin" n.AR
 sf:mg "Tanks"=some (.ref n.dI)
 bQ:Cls K n.dI
 cz:Mk K n.dI n.DO
 pV:bY K n.dI "uses"
 jI:bY K n.dI "fresh_most"
 oE:bY K n.dI "makes"
 kD:bY K n.dI "grey_most"
 jJ:bY K n.dI "black_most"
 fI:bY K n.dI "fresh"
 fX:bY K n.dI "grey"
 fJ:bY K n.dI "black"
 iF:bY K n.dI "making"
 gG:bY K n.dI "grey_goes"
 fS:bY K n.dI "black_goes"
 gO:bY K n.dI "taken_in"
 kU:bY K n.dI "used"
 TX:JL K n.dI "twin" n.GA
 m_Leg:mg "Leg"=some (.ref n.qX)
 qA:Cls K n.qX
 Bq:Mk K n.qX n.OP
 lX:bY K n.qX "hours"
 oK:bY K n.qX "miles"
 rO:bY K n.qX "knots"
 m_Way:mg "Way"=some (.ref n.kN)
 dM:Cls K n.kN
 Bn:Mk K n.kN n.PY
 kI:bY K n.kN "last_day"
 dS:bY K n.kN "hour"
 iL:bY K n.kN "later"
 fO:bY K n.kN "legs"
 mo:JL K n.kN "twin" n.RA
 iu:mg "Vessel"=some (.ref n.iP)
 bO:Cls K n.iP
 T8:Mk K n.iP n.AK
 dF:bY K n.iP "way"
 cE:bY K n.iP "people"
 eV:bY K n.iP "tanks"
 eB:bY K n.iP "stores"
 LN:JL K n.iP "twin" n.AC
 Fe:mg "Voyage"=some (.ref n.eK)
 dQ:Cls K n.eK
 Aw:Mk K n.eK n.zQ
 eF:bY K n.eK "vessel"
 fH:bY K n.eK "past"
 fP:bY K n.eK "undone"
 oW:Fun K "as_bits" "as_bits" WO n.YQ n.WE
 uT:mg "as_bits"=some (.ref n.YQ)
 iS:Fun K "outside" "outside" YH n.XR n.VD
 kE:mg "outside"=some (.ref n.XR)
 YN:Fun K "__init__" "Cabin.__init__" FC n.CY n.DK
 XH:Fun K "__init__" "Party.__init__" FK n.DR n.EW
 TM:Fun K "__init__" "Person.__init__" AV n.AS n.zR
 TQ:Fun K "__init__" "People.__init__" zU n.AY n.BQ
 TV:Fun K "twin" "People.twin" AX n.zO n.zN
 jU:Fun K "count_aboard" "count_aboard" xN n.xJ n.xP
 oM:mg "count_aboard"=some (.ref n.xJ)
 iG:Fun K "those_who_are" "those_who_are" wX n.vV n.xA
 kM:mg "those_who_are"=some (.ref n.vV)
 yU:Fun K "may_leave" "may_leave" IJ n.JG n.HW
 a8:mg "may_leave"=some (.ref n.JG)
 jC:Fun K "person_is_there" "person_is_there" sU n.sR n.sQ
 nW:mg "person_is_there"=some (.ref n.sR)
 jV:Fun K "party_is_there" "party_is_there" tP n.uI n.tV
 pA:mg "party_is_there"=some (.ref n.uI)
 HI:Fun K "members" "members" UM n.XY n.WF
 S8:mg "members"=some (.ref n.XY)
 uB:Fun K "first_of_party" "first_of_party" tW n.uA n.uD
 A6:mg "first_of_party"=some (.ref n.uA)
 BU:Fun K "is_taken" "is_taken" QF n.MT n.QE
 F2:mg "is_taken"=some (.ref n.MT)
 zM:Fun K "free_cabins" "free_cabins" BK n.BJ n.BN
 Y8:mg "free_cabins"=some (.ref n.BJ)
 gn:Fun K "does" "does" gu n.gc n.dk
 m_does:mg "does"=some (.ref n.gc)
 FG:Fun K "best_cabin" "best_cabin" DI n.FV n.DA
 bo:mg "best_cabin"=some (.ref n.FV)
 KW:Fun K "is_nearer" "is_nearer" JZ n.IP n.KC
 jy:mg "is_nearer"=some (.ref n.IP)
 JI:Fun K "add_party" "add_party" IG n.HL n.JM
 kf:mg "add_party"=some (.ref n.HL)
 AZ:Fun K "begin_drill" "begin_drill" AA n.AJ n.AD
 X4:mg "begin_drill"=some (.ref n.AJ)
 sH:Fun K "searched_for" "searched_for" yC n.xW n.yB
 MA:mg "searched_for"=some (.ref n.xW)
 G1:Fun K "__init__" "Lot.__init__" OV n.PZ n.MG
 j3:Fun K "__init__" "Good.__init__" IL n.HZ n.HM
 j1:Fun K "twin" "Good.twin" HP n.JO n.KM
 TZ:Fun K "__init__" "Stores.__init__" zT n.BI n.BL
 SW:Fun K "twin" "Stores.twin" BM n.AR n.BB
 vE:Fun K "units_of" "units_of" OF n.RN n.QX
 RF:mg "units_of"=some (.ref n.RN)
 yM:Fun K "units_in_all" "units_in_all" yJ n.yG n.yO
 O5:mg "units_in_all"=some (.ref n.yG)
 rF:Fun K "loaded_in_all" "loaded_in_all" wY n.wO n.vI
 HD:mg "loaded_in_all"=some (.ref n.wO)
 mW:Fun K "good_is_there" "good_is_there" vQ n.vT n.wU
 vK:mg "good_is_there"=some (.ref n.vT)
 mH:Fun K "good_to_if_loaded" "good_to_if_loaded" qM n.qR n.qP
 xD:mg "good_to_if_loaded"=some (.ref n.qR)
 GX:Fun K "has_lot" "has_lot" XS n.XE n.VQ
 W0:mg "has_lot"=some (.ref n.XE)
 KK:Fun K "add_units" "add_units" KT n.IY n.KS
 kq:mg "add_units"=some (.ref n.IY)
 ax:Fun K "eat" "eat" vk n.tu n.wy
 m_eat:mg "eat"=some (.ref n.tu)
 YZ:Fun K "spoil" "spoil" M4 n.P5 n.M8
 qi:mg "spoil"=some (.ref n.P5)
 BO:Fun K "lacks_up_to" "lacks_up_to" BA n.AU n.AG
 W9:mg "lacks_up_to"=some (.ref n.AU)
 VM:Fun K "end_day" "end_day" VS n.YC n.WY
 As:mg "end_day"=some (.ref n.YC)
 WZ:Fun K "__init__" "Tanks.__init__" EB n.DO n.EH
 XD:Fun K "twin" "Tanks.twin" EM n.GA n.EE
 wM:Fun K "fresh_room" "fresh_room" ES n.FZ n.EG
 VA:mg "fresh_room"=some (.ref n.FZ)
 HJ:Fun K "take_in" "take_in" XG n.UK n.YV
 U3:mg "take_in"=some (.ref n.UK)
 o9:Fun K "let_go" "let_go" t4 n.z9 n.r6
 Eb:mg "let_go"=some (.ref n.z9)
 gy:Fun K "make" "make" ie n.ij n.jk
 m_make:mg "make"=some (.ref n.ij)
 GJ:Fun K "grey_of" "grey_of" VH n.UR n.VW
 R8:mg "grey_of"=some (.ref n.UR)
 n9:Fun K "usable" "usable" A0 n.A9 n.o8
 Fd:mg "usable"=some (.ref n.A9)
 uq:Fun K "use" "use" so n.ue n.wz
 m_use:mg "use"=some (.ref n.ue)
 pF:Fun K "wanted_an_hour" "wanted_an_hour" tY n.uG n.uN
 DX:mg "wanted_an_hour"=some (.ref n.uG)
 wC:Fun K "water_hour" "water_hour" GB n.DY n.FU
 YJ:mg "water_hour"=some (.ref n.DY)
 D1:Fun K "__init__" "Leg.__init__" MX n.OP n.OI
 J7:Fun K "__init__" "Way.__init__" QI n.PY n.RD
 C1:Fun K "twin" "Way.twin" NH n.RA n.OY
 uW:Fun K "way_end" "way_end" WR n.WN n.WA
 GL:mg "way_end"=some (.ref n.WN)
 DD:Fun K "voyage_end" "voyage_end" DQ n.ER n.EJ
 eh:mg "voyage_end"=some (.ref n.ER)
 vB:Fun K "today" "today" O9 n.Q2 n.O7
 CJ:mg "today"=some (.ref n.Q2)
 GC:Fun K "leg_at" "leg_at" v0 n.u5 n.t9
 v8:mg "leg_at"=some (.ref n.u5)
 pI:Fun K "miles_at" "miles_at" QV n.NT n.PN
 vW:mg "miles_at"=some (.ref n.NT)
 vR:Fun K "knots_at" "knots_at" SH n.NJ n.RZ
 MH:mg "knots_at"=some (.ref n.NJ)
 iW:Fun K "is_at_sea" "is_at_sea" KY n.HQ n.HN
 lN:mg "is_at_sea"=some (.ref n.HQ)
 wD:Fun K "is_leaving" "is_leaving" EQ n.DW n.FJ
 WV:mg "is_leaving"=some (.ref n.DW)
 tX:Fun K "port_hour_from" "port_hour_from" uH n.tQ n.uF
 z7:mg "port_hour_from"=some (.ref n.tQ)
 qY:Fun K "next_port_day" "next_port_day" wR n.vD n.vJ
 HF:mg "next_port_day"=some (.ref n.vD)
 qS:Fun K "stay_an_hour_more" "stay_an_hour_more" qN n.qQ n.qV
 UD:mg "stay_an_hour_more"=some (.ref n.qQ)
 IN:Fun K "pass_hour" "pass_hour" HS n.KZ n.KU
 ot:mg "pass_hour"=some (.ref n.KZ)
 BX:Fun K "cr_hours" "cr_hours" OH n.OO n.MM
 E1:mg "cr_hours"=some (.ref n.OO)
 mF:Fun K "lacks_before_port" "lacks_before_port" qU n.qL n.qO
 xG:mg "lacks_before_port"=some (.ref n.qL)
 NA:Fun K "cr_least" "cr_least" OJ n.MY n.OD
 yu:mg "cr_least"=some (.ref n.MY)
 RG:Fun K "cr_short" "cr_short" NV n.QK n.ON
 xo:mg "cr_short"=some (.ref n.QK)
 MZ:Fun K "cr_lasts" "cr_lasts" NG n.NF n.RX
 yg:mg "cr_lasts"=some (.ref n.NF)
 PR:Fun K "cr_ahead" "cr_ahead" QG n.RB n.QW
 uh:mg "cr_ahead"=some (.ref n.RB)
 MV:Fun K "cr_board" "cr_board" RQ n.ME n.OQ
 sn:mg "cr_board"=some (.ref n.ME)
 MP:Fun K "cr_leave" "cr_leave" PP n.SB n.QU
 ub:mg "cr_leave"=some (.ref n.SB)
 WK:Fun K "cr_gate" "cr_gate" WD n.WX n.XO
 Ce:mg "cr_gate"=some (.ref n.WX)
 YB:Fun K "cr_scan" "cr_scan" VF n.WB n.YO
 Bd:mg "cr_scan"=some (.ref n.WB)
 BG:Fun K "come_aboard" "come_aboard" AQ n.BD n.AF
 Z7:mg "come_aboard"=some (.ref n.BD)
 HU:Fun K "go_ashore" "go_ashore" II n.JC n.ID
 nv:mg "go_ashore"=some (.ref n.JC)
 NR:Fun K "cr_drill" "cr_drill" OW n.RK n.SF
 si:mg "cr_drill"=some (.ref n.RK)
 N3:Fun K "cr_in" "cr_in" Q4 n.Q1 n.O1
 Gq:mg "cr_in"=some (.ref n.Q1)
 t0:Fun K "cr_leg" "cr_leg" w6 n.A2 n.x8
 Dl:mg "cr_leg"=some (.ref n.A2)
 YW:Fun K "cr_good" "cr_good" VJ n.UH n.XQ
 Au:mg "cr_good"=some (.ref n.UH)
 RW:Fun K "is_built" "is_built" OS n.OT n.MQ
 vg:mg "is_built"=some (.ref n.OT)
 NM:Fun K "cr_cabin" "cr_cabin" OM n.MN n.SE
 tq:mg "cr_cabin"=some (.ref n.MN)
 AM:Fun K "is_too_much" "is_too_much" zP n.zZ n.AH
 Z5:mg "is_too_much"=some (.ref n.zZ)
 WM:Fun K "cr_load" "cr_load" YK n.WC n.WL
 Ap:mg "cr_load"=some (.ref n.WC)
 KR:Fun K "cr_bunker" "cr_bunker" KP n.IZ n.IK
 pz:mg "cr_bunker"=some (.ref n.IZ)
 IC:Fun K "cr_ashore" "cr_ashore" JU n.JX n.JB
 ly:mg "cr_ashore"=some (.ref n.JX)
 v9:Fun K "cr_set" "cr_set" p8 n.u6 n.m9
 Ec:mg "cr_set"=some (.ref n.u6)
 NZ:Fun K "cr_where" "cr_where" PK n.QS n.QB
 wv:mg "cr_where"=some (.ref n.QS)
 ND:Fun K "cr_ready" "cr_ready" OG n.MO n.RI
 yc:mg "cr_ready"=some (.ref n.MO)
 IO:Fun K "cr_aboard" "cr_aboard" HY n.JQ n.LA
 ku:mg "cr_aboard"=some (.ref n.JQ)
 EL:Fun K "cr_missing" "cr_missing" DG n.DS n.GG
 cu:mg "cr_missing"=some (.ref n.DS)
 JP:Fun K "cr_search" "cr_search" JV n.IR n.KQ
 kv:mg "cr_search"=some (.ref n.IR)
 A7:Fun K "cr_who" "cr_who" x9 n.t7 n.A1
 Ek:mg "cr_who"=some (.ref n.t7)
 PX:Fun K "cr_party" "cr_party" NP n.RC n.PU
 xq:mg "cr_party"=some (.ref n.RC)
 IX:Fun K "cr_cabins" "cr_cabins" IA n.JH n.KH
 ma:mg "cr_cabins"=some (.ref n.JH)
 SI:Fun K "cr_stock" "cr_stock" PM n.NO n.RS
 uw:mg "cr_stock"=some (.ref n.NO)
 PL:Fun K "cr_water" "cr_water" QT n.NQ n.NI
 wu:mg "cr_water"=some (.ref n.NQ)
 WW:Fun K "cr_sums" "cr_sums" VN n.YR n.UF
 Dj:mg "cr_sums"=some (.ref n.YR)
 IQ:Fun K "is_change" "is_change" JF n.JW n.KO
 kd:mg "is_change"=some (.ref n.JW)
 p9:Fun K "change" "change" w9 n.z6 n.u9
 Gc:mg "change"=some (.ref n.z6)
 fu:Fun K "tell" "tell" ff n.gx n.je
 m_tell:mg "tell"=some (.ref n.gx)
 SV:Fun K "__init__" "Vessel.__init__" BE n.AK n.AL
 TD:Fun K "twin" "Vessel.twin" zX n.AC n.AW
 SL:Fun K "__init__" "Voyage.__init__" BP n.zQ n.AB
 OZ:Fun K "cr_start" "cr_start" NU n.PB n.MU
 sr:mg "cr_start"=some (.ref n.PB)
 DL:Fun K "try_change" "try_change" EY n.EK n.FI
 bj:mg "try_change"=some (.ref n.EK)
 IS:Fun K "keep_past" "keep_past" JR n.JN n.KG
 kt:mg "keep_past"=some (.ref n.JN)
 UT:Fun K "cr_back" "cr_back" XJ n.XM n.YD
 Ah:mg "cr_back"=some (.ref n.XM)
 QM:Fun K "cr_again" "cr_again" QY n.OX n.NB
 yf:mg "cr_again"=some (.ref n.OX)
 QA:Fun K "cr_state" "cr_state" MJ n.SG n.RU
 uj:mg "cr_state"=some (.ref n.SG)
 zS:Fun K "answer_call" "answer_call" AE n.zY n.BH
 Z3:mg "answer_call"=some (.ref n.zY)
 Ad:Fun K "answers" "answers" XI n.UY n.U1
 m_answers:mg "answers"=some (.ref n.UY)
 PJ:mg "any"=none
 nG:mg "enumerate"=none
 eE:mg "len"=none
 tF:mg "list"=none
 bc:mg "max"=none
 QC:mg "min"=none
 rV:mg "range"=none
 GZ:mg "sum"=none
 pD:dN mg "ABOARD" (0)
 nO:dN mg "ASHORE" (1)
 YG:dN mg "GONE" (2)
 vM:dN mg "NO_CABIN" (-1)
 GD:dN mg "NOT_IN" (-1)
 hC:dN mg "NONE_THERE" (-2)
 CD:dN mg "NO_DRILL" (-6)
 DE:dN mg "TOO_LITTLE" (-12)
 jE:dN mg "NOT_NOW" (-16)
 rP:dN mg "SO_ALREADY" (-17)
 eC:dN mg "NOT_AS_TOLD" (-22)
 jW:dN mg "TOO_MANY" (-28)
 pX:dN mg "NOT_FITTING" (-33)
 uY:dN mg "NO_ROOM" (-62)
 RO:dN mg "TOO_LATE" (-75)
 kQ:dN mg "HOURS_A_DAY" (24)
 DM:dN mg "NO_LEG" (-1)
 FD:dN mg "MOST_HOURS" (240)
 mZ:dN mg "MOST_HOURS_AHEAD" (500)
 xS:dN mg "MOST_PARTIES" (8)
 yL:dN mg "MOST_PERSONS" (16)
 FR:dN mg "MOST_SHOWN" (100000)
 AN:dN mg "MOST_DRILLS" (1000)
 sT:dN mg "MINUTES_AN_HOUR" (60)
 KJ:dN mg "MOST_LEGS" (10)
 EZ:dN mg "MOST_GOODS" (6)
 BC:dN mg "MOST_CABINS" (12)
 IW:dN mg "MOST_LOTS" (6)
 zV:dN mg "MOST_LOADED" (1000000000)
 pQ:dN mg "MOST_LOADED_IN_ALL" (2000000000)
 wV:dN mg "MOST_TAKEN_IN" (1000000000)
 PF:dN mg "CR_START" (0)
 OU:dN mg "CR_LEG" (1)
 XC:dN mg "CR_GOOD" (2)
 SJ:dN mg "CR_CABIN" (3)
 NL:dN mg "CR_BOARD" (4)
 PV:dN mg "CR_LEAVE" (5)
 VR:dN mg "CR_GATE" (6)
 YA:dN mg "CR_SCAN" (7)
 UZ:dN mg "CR_LOAD" (8)
 JS:dN mg "CR_BUNKER" (9)
 JA:dN mg "CR_ASHORE" (10)
 w8:dN mg "CR_SET" (11)
 QP:dN mg "CR_DRILL" (12)
 O0:dN mg "CR_IN" (13)
 OK:dN mg "CR_HOURS" (14)
 QN:dN mg "CR_WHERE" (15)
 NN:dN mg "CR_READY" (16)
 HR:dN mg "CR_ABOARD" (17)
 DN:dN mg "CR_MISSING" (18)
 IV:dN mg "CR_SEARCH" (19)
 n6:dN mg "CR_WHO" (20)
 RR:dN mg "CR_PARTY" (21)
 HV:dN mg "CR_CABINS" (22)
 MF:dN mg "CR_LEAST" (23)
 MK:dN mg "CR_SHORT" (24)
 QQ:dN mg "CR_STOCK" (25)
 RH:dN mg "CR_WATER" (26)
 OE:dN mg "CR_LASTS" (27)
 QH:dN mg "CR_AHEAD" (28)
 WT:dN mg "CR_BACK" (30)
 RV:dN mg "CR_AGAIN" (31)
 NC:dN mg "CR_STATE" (32)
 z5:mg "NUMBERS_BEHIND"=some (.ref n.tS)
 A4:∀H:Hp,SqT K H n.tS [.int 8,.int 3,.int 2,.int 5,.int 4,.int 1,.int 1,.int 1,.int 2,.int 1,.int 2,.int 3,.int 0,.int 1,.int 1,.int 0,.int 0,.int 0,.int 0,.int 0,.int 1,.int 1,.int 0,.int 1,.int 0,.int 1,.int 0,.int 0,.int 1,.int 0,.int 0,.int 0,.int 0]
 sP:dN mg "MOST_TAKEN_BACK" (20)
 BF:dN mg "MOST_LITRES" (10000000)
 KD:dN mg "MOST_ROOM" (1000000000)
section
variable{K:PySem.W.Frag}{mg:Str→Option Value}{n:bL}
theorem uX(T:Txt K mg n):bM K n.WE ["numbers"] []:=T.oW.bd1
theorem kF(T:Txt K mg n):bM K n.VD ["number","least","most"] []:=T.iS.bd3
theorem ip(T:Txt K mg n):bM K n.DK ["self","deck","place","rank","berths","flat"] []:=T.YN.bd6
theorem ft(T:Txt K mg n):bM K n.EW ["self","first","many","cabin"] []:=T.XH.bd4
theorem Z6(T:Txt K mg n):bM K n.zR ["self","party","child"] []:=T.TM.bd3
theorem TU(T:Txt K mg n):bM K n.BQ ["self","most"] []:=T.TQ.bd2
theorem X3(T:Txt K mg n):bM K n.zN ["self"] []:=T.TV.bd1
theorem oH(T:Txt K mg n):bM K n.xP ["people"] []:=T.jU.bd1
theorem kK(T:Txt K mg n):bM K n.xA ["people","standing"] []:=T.iG.bd2
theorem k8(T:Txt K mg n):bM K n.HW ["people"] []:=T.yU.bd1
theorem nZ(T:Txt K mg n):bM K n.sQ ["people","person"] []:=T.jC.bd2
theorem oY(T:Txt K mg n):bM K n.tV ["people","party"] []:=T.jV.bd2
theorem W1(T:Txt K mg n):bM K n.WF ["party"] []:=T.HI.bd1
theorem n0(T:Txt K mg n):bM K n.uD ["people","person"] []:=T.uB.bd2
theorem E3(T:Txt K mg n):bM K n.QE ["people","cabin"] []:=T.BU.bd2
theorem Z8(T:Txt K mg n):bM K n.BN ["people"] []:=T.zM.bd1
theorem b_does(T:Txt K mg n):bM K n.dk ["people","number","many","rank","flat"] []:=T.gn.bd5
theorem eu(T:Txt K mg n):bM K n.DA ["people","many","rank","flat"] []:=T.FG.bd4
theorem qd(T:Txt K mg n):bM K n.KC ["cabin","other"] []:=T.KW.bd2
theorem mq(T:Txt K mg n):bM K n.JM ["people","many","children","cabin"] []:=T.JI.bd4
theorem ac(T:Txt K mg n):bM K n.AD ["people"] []:=T.AZ.bd1
theorem LZ(T:Txt K mg n):bM K n.yB ["people"] []:=T.sH.bd1
theorem C6(T:Txt K mg n):bM K n.MG ["self","good_to","units"] []:=T.G1.bd3
theorem l7(T:Txt K mg n):bM K n.HM ["self","per","life"] []:=T.j3.bd3
theorem i0(T:Txt K mg n):bM K n.KM ["self"] []:=T.j1.bd1
theorem TF(T:Txt K mg n):bM K n.BL ["self","room"] []:=T.TZ.bd2
theorem aa(T:Txt K mg n):bM K n.BB ["self"] []:=T.SW.bd1
theorem SD(T:Txt K mg n):bM K n.QX ["good"] []:=T.vE.bd1
theorem N0(T:Txt K mg n):bM K n.yO ["stores"] []:=T.yM.bd1
theorem GI(T:Txt K mg n):bM K n.vI ["stores"] []:=T.rF.bd1
theorem wT(T:Txt K mg n):bM K n.wU ["stores","number"] []:=T.mW.bd2
theorem xC(T:Txt K mg n):bM K n.qP ["good","day"] []:=T.mH.bd2
theorem R9(T:Txt K mg n):bM K n.VQ ["good","good_to"] []:=T.GX.bd2
theorem lv(T:Txt K mg n):bM K n.KS ["good","good_to","units"] []:=T.KK.bd3
theorem b_eat(T:Txt K mg n):bM K n.wy ["good","wanted"] []:=T.ax.bd2
theorem rj(T:Txt K mg n):bM K n.M8 ["good","day"] []:=T.YZ.bd2
theorem Y7(T:Txt K mg n):bM K n.AG ["good","aboard","day","other_day"] []:=T.BO.bd4
theorem Ax(T:Txt K mg n):bM K n.WY ["stores","aboard","new_day"] []:=T.VM.bd3
theorem XN(T:Txt K mg n):bM K n.EH ["self","uses","fresh_most","makes","grey_most","black_most"] []:=T.WZ.bd6
theorem WS(T:Txt K mg n):bM K n.EE ["self"] []:=T.XD.bd1
theorem XA(T:Txt K mg n):bM K n.EG ["tanks"] []:=T.wM.bd1
theorem V7(T:Txt K mg n):bM K n.YV ["tanks","litres"] []:=T.HJ.bd2
theorem Fc(T:Txt K mg n):bM K n.r6 ["tanks","miles","knots"] []:=T.o9.bd3
theorem b_make(T:Txt K mg n):bM K n.jk ["tanks","miles"] []:=T.gy.bd2
theorem V6(T:Txt K mg n):bM K n.VW ["used"] []:=T.GJ.bd1
theorem Fw(T:Txt K mg n):bM K n.o8 ["tanks"] []:=T.n9.bd1
theorem b_use(T:Txt K mg n):bM K n.wz ["tanks","wanted"] []:=T.uq.bd2
theorem FE(T:Txt K mg n):bM K n.uN ["tanks","aboard"] []:=T.pF.bd2
theorem YX(T:Txt K mg n):bM K n.FU ["tanks","miles","knots","aboard"] []:=T.wC.bd4
theorem J6(T:Txt K mg n):bM K n.OI ["self","hours","miles","knots"] []:=T.D1.bd4
theorem C5(T:Txt K mg n):bM K n.RD ["self","last_day"] []:=T.J7.bd2
theorem wm(T:Txt K mg n):bM K n.OY ["self"] []:=T.C1.bd1
theorem GQ(T:Txt K mg n):bM K n.WA ["way"] []:=T.uW.bd1
theorem bq(T:Txt K mg n):bM K n.EJ ["way"] []:=T.DD.bd1
theorem CN(T:Txt K mg n):bM K n.O7 ["way"] []:=T.vB.bd1
theorem v2(T:Txt K mg n):bM K n.t9 ["way","hour"] []:=T.GC.bd2
theorem wB(T:Txt K mg n):bM K n.PN ["way","hour"] []:=T.pI.bd2
theorem NS(T:Txt K mg n):bM K n.RZ ["way","hour"] []:=T.vR.bd2
theorem lI(T:Txt K mg n):bM K n.HN ["way"] []:=T.iW.bd1
theorem VZ(T:Txt K mg n):bM K n.FJ ["way"] []:=T.wD.bd1
theorem u4(T:Txt K mg n):bM K n.uF ["way","hour"] []:=T.tX.bd2
theorem GU(T:Txt K mg n):bM K n.vJ ["way"] []:=T.qY.bd1
theorem UC(T:Txt K mg n):bM K n.qV ["way"] []:=T.qS.bd1
theorem oe(T:Txt K mg n):bM K n.KU ["vessel"] []:=T.IN.bd1
theorem B5(T:Txt K mg n):bM K n.MM ["vessel","n"] []:=T.BX.bd2
theorem xH(T:Txt K mg n):bM K n.qO ["vessel","good"] []:=T.mF.bd2
theorem uv(T:Txt K mg n):bM K n.OD ["vessel","g"] []:=T.NA.bd2
theorem vp(T:Txt K mg n):bM K n.ON ["vessel"] []:=T.RG.bd1
theorem xl(T:Txt K mg n):bM K n.RX ["vessel"] []:=T.MZ.bd1
theorem wa(T:Txt K mg n):bM K n.QW ["vessel","n"] []:=T.PR.bd2
theorem ut(T:Txt K mg n):bM K n.OQ ["vessel","many","children","rank","flat"] []:=T.MV.bd5
theorem uc(T:Txt K mg n):bM K n.QU ["vessel","party"] []:=T.MP.bd2
theorem Be(T:Txt K mg n):bM K n.XO ["vessel","opened"] []:=T.WK.bd2
theorem By(T:Txt K mg n):bM K n.YO ["vessel","card"] []:=T.YB.bd2
theorem ai(T:Txt K mg n):bM K n.AF ["people","person"] []:=T.BG.bd2
theorem mx(T:Txt K mg n):bM K n.ID ["people","person"] []:=T.HU.bd2
theorem wt(T:Txt K mg n):bM K n.SF ["vessel"] []:=T.NR.bd1
theorem Gs(T:Txt K mg n):bM K n.O1 ["vessel","p"] []:=T.N3.bd2
theorem Fx(T:Txt K mg n):bM K n.x8 ["vessel","hours","miles","knots"] []:=T.t0.bd4
theorem Ao(T:Txt K mg n):bM K n.XQ ["vessel","per","life"] []:=T.YW.bd3
theorem ym(T:Txt K mg n):bM K n.MQ ["cabins","deck","place"] []:=T.RW.bd3
theorem vi(T:Txt K mg n):bM K n.SE ["vessel","deck","place","rank","berths","flat"] []:=T.NM.bd6
theorem Y2(T:Txt K mg n):bM K n.AH ["stores","good","n"] []:=T.AM.bd3
theorem Bs(T:Txt K mg n):bM K n.WL ["vessel","g","n"] []:=T.WM.bd3
theorem kj(T:Txt K mg n):bM K n.IK ["vessel","n"] []:=T.KR.bd2
theorem na(T:Txt K mg n):bM K n.JB ["vessel","grey","black"] []:=T.IC.bd3
theorem Gd(T:Txt K mg n):bM K n.m9 ["vessel","making","grey","black"] []:=T.v9.bd4
theorem vo(T:Txt K mg n):bM K n.QB ["vessel"] []:=T.NZ.bd1
theorem ww(T:Txt K mg n):bM K n.RI ["vessel"] []:=T.ND.bd1
theorem kr(T:Txt K mg n):bM K n.LA ["vessel"] []:=T.IO.bd1
theorem jn(T:Txt K mg n):bM K n.GG ["vessel"] []:=T.EL.bd1
theorem jz(T:Txt K mg n):bM K n.KQ ["vessel"] []:=T.JP.bd1
theorem Er(T:Txt K mg n):bM K n.A1 ["vessel","card"] []:=T.A7.bd2
theorem vx(T:Txt K mg n):bM K n.PU ["vessel","p"] []:=T.PX.bd2
theorem nu(T:Txt K mg n):bM K n.KH ["vessel"] []:=T.IX.bd1
theorem vq(T:Txt K mg n):bM K n.RS ["vessel","g"] []:=T.SI.bd2
theorem vw(T:Txt K mg n):bM K n.NI ["vessel"] []:=T.PL.bd1
theorem Cm(T:Txt K mg n):bM K n.UF ["vessel"] []:=T.WW.bd1
theorem md(T:Txt K mg n):bM K n.KO ["call"] []:=T.IQ.bd1
theorem Ge(T:Txt K mg n):bM K n.u9 ["vessel","call","numbers"] []:=T.p9.bd3
theorem b_tell(T:Txt K mg n):bM K n.je ["vessel","call","numbers"] []:=T.fu.bd3
theorem TJ(T:Txt K mg n):bM K n.AL ["self","way","people","tanks","stores"] []:=T.SV.bd5
theorem UB(T:Txt K mg n):bM K n.AW ["self"] []:=T.TD.bd1
theorem X9(T:Txt K mg n):bM K n.AB ["self"] []:=T.SL.bd1
theorem xi(T:Txt K mg n):bM K n.MU ["voyage","most","uses","fresh","makes","grey","black","room","last"] []:=T.OZ.bd9
theorem gq(T:Txt K mg n):bM K n.FI ["voyage","call","numbers"] []:=T.DL.bd3
theorem pr(T:Txt K mg n):bM K n.KG ["voyage"] []:=T.IS.bd1
theorem Az(T:Txt K mg n):bM K n.YD ["voyage"] []:=T.UT.bd1
theorem xa(T:Txt K mg n):bM K n.NB ["voyage"] []:=T.QM.bd1
theorem ua(T:Txt K mg n):bM K n.RU ["voyage"] []:=T.QA.bd1
theorem X8(T:Txt K mg n):bM K n.BH ["voyage","call","numbers"] []:=T.zS.bd3
end
theorem cO{H:Hp}{a:Addr}{o o':HO}:upd (upd H a o) a o'=upd H a o':=by
 funext b
 unfold upd
 by_cases h:b=a
 ·rw[if_pos h,if_pos h]
 ·rw[if_neg h,if_neg h,if_neg h]
def VY(fs:List (Str×V)):Bool:=(fs.lookup ("hours":Str)).isSome||((fs.lookup ("deck":Str)).isSome||((fs.lookup ("first":Str)).isSome||((fs.lookup ("child":Str)).isSome||(fs.lookup ("good_to":Str)).isSome)))
def xn:HO→Bool
 |.ins _ _ fs=>VY fs
 |_=>false
structure Chg(A:List Addr)(H H':Hp):Prop where
 keep:∀b o,H b=some o→(b∉A∨xn o=true)→H' b=some o
 dom:∀b,H' b=none→H b=none
theorem Chg.same{H H':Hp}(h:aX H H')(A:List Addr):Chg A H H':=⟨fun b o e _=>h b o e,fun _ e=>h.free e⟩
theorem Chg.refl(A:List Addr)(H:Hp):Chg A H H:=⟨fun _ _ e _=>e,fun _ e=>e⟩
theorem Chg.trans{A:List Addr}{H H1 H2:Hp}(a:Chg A H H1)(b:Chg A H1 H2):Chg A H H2:=⟨fun c o e h=>b.keep c o (a.keep c o e h) h,fun c e=>a.dom c (b.dom c e)⟩
theorem Chg.cF{A B:List Addr}{H H':Hp}(h:Chg A H H')(s:∀a∈A,a∈B):Chg B H H':=⟨fun c o e n=>h.keep c o e (n.imp (fun q z=>q (s c z)) id),h.dom⟩
theorem Chg.upd{A:List Addr}{H:Hp}{a:Addr}{o o':HO}(h:a∈A)(e:H a=some o')(hn:xn o'=false):Chg A H (upd H a o):=⟨fun c u e' n=>by
 by_cases q:c=a
 ·exfalso;subst q;rw[e] at e';cases e'
  rcases n with n |n
  ·exact n h
  ·rw[hn] at n;cases n
 ·rw[bA q];exact e',fun c z=>by
 by_cases q:c=a
 ·rw[q,aH] at z;cases z
 ·rw[bA q] at z;exact z⟩
abbrev mkI(H:Hp)(x dx C:Addr)(F:List (Str×V)):Hp:=upd (upd H dx (.own x)) x (.ins C dx F)
theorem aX.mkI{H:Hp}{x dx C:Addr}{F:List (Str×V)}(n:H x=Option.none)(m:H dx=Option.none):aX H (mkI H x dx C F):=fun b o e=>by
 show L2.upd (L2.upd H dx (.own x)) x (.ins C dx F) b=some o;rw[bA (bN e n),bA (bN e m)];exact e
def spI(C:Addr)(k:Nat)(F:List V→List (Str×V)):Sp:=fun vs H Q _=>∃(p dx:Addr) (args:List V),vs=.ref p::args∧args.length=k∧H p=some (.ins C dx [])∧Q .non (upd H p (.ins C dx (F args)))
section
variable{σ:L2.St}{H:Hp}{C:Addr}{k:Nat}{F:List V→List (Str×V)}{E:XK}{t:TA}{vs:List V}{Q:VK}
theorem C2(ha:EA t σ H vs)(hl:vs.length=k)(q:∀x dx,H x=none→H dx=none→dx≠x→Q (.ref x) (mkI H x dx C (F vs))):GV C (spI C k F) [] E t σ H Q:=
 ha _ fun x dx hx hdx hne=>⟨x,dx,vs,by rw[List.append_nil],hl,aH,rfl,by rw[cO];exact q x dx hx hdx hne⟩
end
def dJ{α β:Type}(R:α→β→Prop)(as:List α)(xs:List β):Prop:=as.length=xs.length∧∀(i:Nat) a x,as[i]? =some a→xs[i]? =some x→R a x
theorem dJ.cF{α β:Type}{R S:α→β→Prop}{as:List α}{xs:List β}(h:dJ R as xs)(f:∀a x,R a x→S a x):dJ S as xs:=⟨h.1,fun i a x e1 e2=>f a x (h.2 i a x e1 e2)⟩
theorem dJ.nil{α β:Type}{R:α→β→Prop}:dJ R [] []:=⟨rfl,fun i a x e=>by simp at e⟩
theorem dJ.at{α β:Type}{R:α→β→Prop}{as:List α}{xs:List β}(h:dJ R as xs){i:Nat}{x:β}(e:xs[i]? =some x):∃a,as[i]? =some a∧R a x:=by
 have hi:i < as.length:=by rw[h.1];exact(List.getElem?_eq_some_iff.mp e).1
 exact⟨_,List.getElem?_eq_getElem hi,h.2 i _ x (List.getElem?_eq_getElem hi) e⟩
theorem dJ.at'{α β:Type}{R:α→β→Prop}{as:List α}{xs:List β}(h:dJ R as xs){i:Nat}{a:α}(e:as[i]? =some a):∃x,xs[i]? =some x∧R a x:=by
 have hi:i < xs.length:=by rw[←h.1];exact(List.getElem?_eq_some_iff.mp e).1
 exact⟨_,List.getElem?_eq_getElem hi,h.2 i a _ e (List.getElem?_eq_getElem hi)⟩
theorem dJ.tU{α β:Type}{R:α→β→Prop}{as:List α}{xs:List β}(h:dJ R as xs){a:α}{x:β}(r:R a x):dJ R (as++[a]) (xs++[x]):=by
 refine⟨by simp[h.1],fun i b y e1 e2=>?_⟩
 by_cases hi:i < as.length
 ·rw[List.getElem?_append_left hi] at e1;rw[List.getElem?_append_left (by rw[←h.1];exact hi)] at e2;exact h.2 i b y e1 e2
 ·rw[List.getElem?_append_right (by omega)] at e1;rw[List.getElem?_append_right (by have:=h.1;omega)] at e2;have hl:=h.1
  cases hk:i - as.length with
  |zero=>
   rw[hk] at e1;rw[←hl,hk] at e2;cases e1;cases e2;exact r
  |succ j=>
   rw[hk] at e1;simp at e1
theorem dJ.set{α β:Type}{R:α→β→Prop}{as:List α}{xs:List β}(h:dJ R as xs){i:Nat}{a:α}{x:β}(r:R a x):dJ R (as.set i a) (xs.set i x):=by
 refine⟨by simp[h.1],fun j b y e1 e2=>?_⟩
 by_cases hj:i=j
 ·subst hj;have h1:i < as.length:=by
   have:=(List.getElem?_eq_some_iff.mp e1).1;simpa using this
  rw[List.getElem?_set_self h1] at e1;rw[List.getElem?_set_self (by rw[←h.1];exact h1)] at e2;cases e1;cases e2;exact r
 ·rw[List.getElem?_set_ne hj] at e1 e2;exact h.2 j b y e1 e2
theorem D7{as:List Addr}{i:Nat}{a:Addr}(h:as[i]? =some a):(as.map V.ref)[i]? =some (.ref a):=by rw[List.getElem?_map,h];rfl
theorem jD{as:List Addr}{i:Nat}{v:V}(h:(as.map V.ref)[i]? =some v):∃a,as[i]? =some a∧v=.ref a:=by
 rw[List.getElem?_map] at h
 cases e:as[i]? with
 |none=>rw[e] at h;cases h
 |some a=>rw[e] at h;exact⟨a,rfl,(Option.some.inj h).symm⟩
def legF(x:CS.Leg):List (Str×V):=[("hours",.int x.hours),("miles",.int x.miles),("knots",.int x.knots)]
def VB(x:CS.Cabin):List (Str×V):=[("deck",.int x.deck),("place",.int x.place),("rank",.int x.rank),("berths",.int x.berths),("flat",.int x.flat)]
def jf(x:CS.Party):List (Str×V):=[("first",.int x.first),("many",.int x.many),("cabin",.int x.cabin)]
def rc(x:CS.Person):List (Str×V):=[("party",.int x.party),("child",.bl x.ay)]
def lotF(x:CS.Lot):List (Str×V):=[("good_to",.int x.gU),("units",.int x.units)]
def gH(H:Hp)(C a:Addr)(fs:List (Str×V)):Prop:=∃dx,H a=some (.ins C dx fs)
theorem gH.same{H H':Hp}{C a:Addr}{fs:List (Str×V)}(h:gH H C a fs)(s:aX H H'):gH H' C a fs:=let ⟨dx,e⟩:=h;⟨dx,s _ _ e⟩
theorem gH.chg{H H':Hp}{C a:Addr}{fs:List (Str×V)}{A:List Addr}(h:gH H C a fs)(s:Chg A H H')(n:a∉A∨VY fs=true):gH H' C a fs:=let ⟨dx,e⟩:=h;⟨dx,s.keep _ _ e n⟩
def lZ{α:Type}(H:Hp)(C:Addr)(F:α→List (Str×V))(l:Addr)(xs:List α):Prop:=∃as:List Addr,H l=some (.lst (as.map V.ref))∧dJ (fun a x=>gH H C a (F x)) as xs
def C0(H:Hp)(l:Addr)(xs:List Int):Prop:=H l=some (.lst (xs.map V.int))
def EI(W:CS.Way)(l:Addr):List (Str×V):=[("last_day",.int W.last),("hour",.int W.hour),("later",.int W.fC),("legs",.ref l)]
structure gQ(n:bL)(H:Hp)(w l:Addr)(W:CS.Way):Prop where
 obj:gH H n.kN w (EI W l)
 legs:lZ H n.qX legF l W.legs
theorem lZ.same{α:Type}{H H':Hp}{C:Addr}{F:α→List (Str×V)}{l:Addr}{xs:List α}(h:lZ H C F l xs)(s:aX H H'):lZ H' C F l xs:=
 let ⟨as,e,a⟩:=h
 ⟨as,s _ _ e,a.cF fun _ _ r=>r.same s⟩
theorem lZ.chg{α:Type}{H H':Hp}{C:Addr}{F:α→List (Str×V)}{l:Addr}{xs:List α}{A:List Addr}(h:lZ H C F l xs)(s:Chg A H H')(n:l∉A)(hi:∀x,VY (F x)=true):lZ H' C F l xs:=
 let ⟨as,e,a⟩:=h
 ⟨as,s.keep _ _ e (.inl n),a.cF fun _ x r=>r.chg s (.inr (hi x))⟩
theorem ZG(x:CS.Leg):VY (legF x)=true:=rfl
theorem lJ(x:CS.Cabin):VY (VB x)=true:=rfl
theorem lK(x:CS.Party):VY (jf x)=true:=rfl
theorem jX(x:CS.Person):VY (rc x)=true:=rfl
theorem yP(x:CS.Lot):VY (lotF x)=true:=rfl
theorem gQ.same{n:bL}{H H':Hp}{w l:Addr}{W:CS.Way}(h:gQ n H w l W)(s:aX H H'):gQ n H' w l W:=⟨h.obj.same s,h.legs.same s⟩
theorem gQ.chg{n:bL}{H H':Hp}{w l:Addr}{W:CS.Way}{A:List Addr}(h:gQ n H w l W)(s:Chg A H H')(hw:w∉A)(hl:l∉A):gQ n H' w l W:=⟨h.obj.chg s (.inl hw),h.legs.chg s hl ZG⟩
end CSP
namespace L2
open PySem PySem.Spec PyProof.Rows
theorem aZ{H:Hp}{a b:Addr}{o o':HO}(n:b≠a)(e:H b=some o):upd H a o' b=some o:=by rw[bA n];exact e
section
variable{K:PySem.W.Frag}{σ:St}{H:Hp}{ta tb tc to:TE}{t u:TT}{tl:TA}{i j:Int}{a b:Bool}{v x y:V}{p l C dx:Addr}{fs:List (Str×V)}{f:Str}{D:lB}{st su:TS}{xs:List V}
theorem bt{k:Nat}{g:Int→Int→Int}(hx:σ[k]? =some (some (.int i)))(h:EV ta σ H (.int j))(q:D.nx (σ.set k (some (.int (g i j)))) H):tAug k ta (ipI g) D σ H:=⟨_,hx,h _ ⟨i,j,rfl,rfl,q⟩⟩
theorem iN(ho:EV ta σ H (.ref p))(h:H p=some (.ins C dx fs))(c:Cls K C)(n:bY K C f)(hl:fs.lookup f=some (.int i))(hv:EV tb σ H (.int j))(hz:fs.length < 1000)(q:D.nx σ (upd H p (.ins C dx (cC f (.int (i+j)) fs)))):ZM K ta tb rAdd f D σ H:=
 ho _ ⟨p,C,dx,fs,_,rfl,h,c,n,hl,hv _ ⟨i,j,rfl,rfl,dx,fs,h,hz,q⟩⟩
theorem o7(ho:EV ta σ H (.ref p))(h:H p=some (.ins C dx fs))(c:Cls K C)(n:bY K C f)(hl:fs.lookup f=some (.int i))(hv:EV tb σ H (.int j))(hz:fs.length < 1000)(q:D.nx σ (upd H p (.ins C dx (cC f (.int (i - j)) fs)))):ZM K ta tb rSub f D σ H:=
 ho _ ⟨p,C,dx,fs,_,rfl,h,c,n,hl,hv _ ⟨i,j,rfl,rfl,dx,fs,h,hz,q⟩⟩
theorem xR(ho:EV to σ H (.ref l))(hl:H l=some (.lst xs))(ha:EV ta σ H y)(hz:xs.length < sizeLine)(q:D.nx σ (upd H l (.lst (xs++[y])))):BZ (tBM K "list" CK to (dD ta eU)) D σ H:=
 ho _ ⟨.inl ⟨rfl,xs,SqL.of hl⟩,ha _ ⟨l,xs,y,rfl,rfl,hl,hz,q⟩⟩
theorem GP{k:Nat}{n:Int}(hv:EV ta σ H v)(ho:EV to σ H (.ref l))(hi:EV tb σ H (.int n))(hl:H l=some (.lst xs))(hk:ixN xs.length n=some k)(q:D.nx σ (upd H l (.lst (xs.set k v)))):IM ta (gSub to tb ya) D σ H:=
 hv _ (ho _ (hi _ ⟨l,xs,n,k,rfl,rfl,hl,hk,q⟩))
theorem LJ{n k:Nat}(h:k < n):ixN n (k:Int)=some k:=by
 unfold ixN;rw[if_pos (by omega),if_pos (by omega)];simp
theorem qZ(h:ET t σ H a)(e:a=b):ET t σ H b:=e▸h
theorem dR(h:EV ta σ H x)(e:x=y):EV ta σ H y:=e▸h
theorem zt(hc:ET t σ H true)(h1:EV ta σ H x):EV (tIf t ta tb) σ H x:=fun Q q=>hc _ (by rw[if_pos rfl];exact h1 Q q)
theorem Co(hc:ET t σ H false)(h1:EV tb σ H x):EV (tIf t ta tb) σ H x:=fun Q q=>hc _ (by rw[if_neg Bool.false_ne_true];exact h1 Q q)
theorem yi(h:ET t σ H true)(h1:st D σ H):tIfS t st su D σ H:=h _ (by rw[if_pos rfl];exact h1)
theorem s_ifF(h:ET t σ H false)(h1:su D σ H):tIfS t st su D σ H:=h _ (by rw[if_neg Bool.false_ne_true];exact h1)
theorem J2{i j:Nat}{g:TG}{tb:TS}(hg:g=z8 K 2 (sJ (dB i) (sJ (dB j) q5)))(ha:EA tl σ H [.ref l])(hs0:SqL K H l xs)(Pv:Nat→St→Hp→Prop)(h0:Pv 0 σ H)(hl:∀k σ H,k≤xs.length→Pv k σ H→SqL K H l xs)
  (hs:∀(k:Nat) x σ H T,xs[k]? =some x→Pv k σ H→H T=none→tb { D with nx:=Pv (k+1),ct:=Pv (k+1),bk:=D.nx } ((σ.set i (some (.int (k:Nat)))).set j (some x)) (upd H T (.tup [.int (k:Nat),x]))) (hd:∀σ H,Pv xs.length σ H→D.nx σ H):tFor (xm K tl) g tb D σ H:=
 ha _ ⟨l,xs,rfl,hs0,Fz hg Pv h0 hl hs hd⟩
theorem BY{i:Nat}{tb:TS}(ha:EV ta σ H (.ref l))(hs0:SqL K H l xs)(Pv:Nat→St→Hp→Prop)(h0:Pv 0 σ H)(hl:∀k σ H,k≤xs.length→Pv k σ H→SqL K H l xs)
  (hs:∀(k:Nat) x σ H,xs[k]? =some x→Pv k σ H→tb { D with nx:=Pv (k+1),ct:=Pv (k+1),bk:=D.nx } (σ.set i (some x)) H) (hd:∀σ H,Pv xs.length σ H→D.nx σ H):tFor (am K ta) (dB i) tb D σ H:=
 ha _ ⟨l,rfl,⟨xs,hs0⟩,Fk Pv h0 hl hs hd⟩
theorem JD{i:Nat}{n:Int}{tb:TS}(ha:EA tl σ H [.int n])(h1:0≤n)(h2:n < 2 ^ 62)(Pv:Nat→St→Hp→Prop)(h0:Pv 0 σ H)
  (hs:∀(k:Nat) σ H,k < n.toNat→Pv k σ H→tb { D with nx:=Pv (k+1),ct:=Pv (k+1),bk:=D.nx } (σ.set i (some (.int (k:Nat)))) H) (hd:∀σ H,Pv n.toNat σ H→D.nx σ H):tFor (vd tl) (dB i) tb D σ H:=
 ha _ ⟨n,rfl,by omega,h2,U7 Pv h0 (fun k σ H hk p=>by
  have:=hs k σ H hk p;show tb _ (σ.set i (some (.int (0+(k:Nat))))) H;rw[Int.zero_add];exact this) hd⟩
theorem gR{g:TG}(h:ta σ H fun x H1=>g x σ H1 D.nx):IM ta g D σ H:=h
theorem g_sub{k:Nat}{n:Int}{Q:St→Hp→Prop}(ho:EV to σ H (.ref l))(hi:EV tb σ H (.int n))(hl:H l=some (.lst xs))(hk:ixN xs.length n=some k)(q:Q σ (upd H l (.lst (xs.set k v)))):gSub to tb ya v σ H Q:=
 ho _ (hi _ ⟨l,xs,n,k,rfl,rfl,hl,hk,q⟩)
theorem jR(ho:∀H',EV ta σ H' (.ref p))(h:H p=some (.ins C dx fs))(c:Cls K C)(n:bY K C f)(hl:fs.length < 1000)(q:∀l,H l=none→D.nx σ (upd (upd H l (.lst [])) p (.ins C dx (cC f (.ref l) fs)))):MS K ta (EU eU) f D σ H:=
 ⟨Nat.zero_le _,fun l hn=>ho _ _ ⟨p,C,dx,fs,rfl,by rw[bA (bN h hn)];exact h,c,n,hl,q l hn⟩⟩
theorem rM{tl:TE}{ys:List V}{m:Addr}(ha:EV tl σ H (.ref m))(hs:SqL K H m ys)(ho:∀H',EV ta σ H' (.ref p))(h:H p=some (.ins C dx fs))(c:Cls K C)(n:bY K C f)(hl:fs.length < 1000)(q:∀l,H l=none→D.nx σ (upd (upd H l (.lst ys)) p (.ins C dx (cC f (.ref l) fs)))):
  MS K ta (tCB (fun xs H Q=>∃p ys,xs=[.ref p]∧(SqL K H p ys∨SqT K H p ys)∧∀l,H l=none→Q (.ref l) (upd H l (.lst ys))) (dD tl eU)) f D σ H:=
 ha _ ⟨m,ys,rfl,.inl hs,fun l hn=>ho _ _ ⟨p,C,dx,fs,rfl,by rw[bA (bN h hn)];exact h,c,n,hl,q l hn⟩⟩
theorem cG{sp:Sp}{E:XK}{vs:List V}{Q:VK}(ha:EA tl σ H vs)(h:sp vs H Q E):jH sp [] E tl σ H Q:=ha _ (by rw[List.append_nil];exact h)
end
end L2
namespace CSP
open PySem PySem.Spec PyProof.Rows L2
section
variable{P:Program}{w:World}{K:PySem.W.Frag}{mg:Str→Option Value}{aT:Heap}{n:bL}
def Bw:List V→Hp→V→Prop:=fun vs _ v=>∃a b c,vs=[.int a,.int b,.int c]∧v=.bl (CS.cJ a b c)
theorem iY(T:Txt K mg n):bK P w K mg aT CX0 1 n.XR n.VD ["number","least","most"] (spP Bw):=by
 refine bK.pure (T.iS.ok vc (fun vs H Q E h=>?_) (fun cdv A bF s H vs Q E hr h=>?_))
 ·obtain⟨v,⟨a,b,c,rfl,_⟩,_⟩:=h;rfl
 ·obtain⟨v,⟨a,b,c,rfl,rfl⟩,k⟩:=h;refine⟨_,(aK (aN (pe_or (gM tL (pv 0) (pv 1) (bD _)) (zK (gM fW (pv 0) (pv 2) (bD _)))))),?_⟩;exact dO (ev_or (bU (aA rfl) (aA rfl)) fun _=>(bU (aA rfl) (aA rfl))) (k H aX.rfl')
def NX:List V→List (Str×V)
 |[a,b,c]=>[("hours",a),("miles",b),("knots",c)]
 |_=>[]
theorem a9(T:Txt K mg n):bK P w K mg aT CX0 1 n.OP n.OI ["self","hours","miles","knots"] (spI n.qX 3 NX):=by
 refine T.D1.ok ka (fun vs H Q E h=>?_) (fun cdv A bF s H vs Q E hr h=>?_)
 ·obtain⟨p,dx,args,rfl,hl,_⟩:=h;show args.length+1=4;rw[hl]
 ·obtain⟨p,dx,args,rfl,hl,hp,k⟩:=h
  match args,hl,k with
  |[a,b,c],_,k=>
   refine⟨_,(aE (bP (pv 0) (pv 1) rfl)
   (aE (bP (pv 0) (pv 2) rfl)
   (aK (bP (pv 0) (pv 3) rfl)))),?_⟩
   refine cN (aA rfl) (aA rfl) hp T.qA T.lX (by show 0 < 1000;decide) ?_;refine cN (aA rfl) (aA rfl) aH T.qA T.oK (by show 1 < 1000;decide) ?_;refine cN (aA rfl) (aA rfl) aH T.qA T.rO (by show 2 < 1000;decide) ?_;rw[cO,cO];exact k
def Cn(n:bL):List V→Hp→V→Prop:=fun vs H v=>∃w l W,vs=[.ref w]∧gQ n H w l W∧W.legs.length≤1000∧v=.int (CS.wP W)
theorem CC(T:Txt K mg n):bK P w K mg aT CX0 1 n.WN n.WA ["way"] (spP (Cn n)):=by
 refine bK.pure (T.uW.ok OL (fun vs H Q E h=>?_) (fun cdv A bF s H vs Q E hr h=>?_))
 ·obtain⟨v,⟨a,b,c,rfl,_⟩,_⟩:=h;rfl
 ·obtain⟨v,⟨w,l,W,rfl,⟨⟨dw,hw⟩,as,hl,hall⟩,hz,rfl⟩,k⟩:=h;refine⟨_,(aK (aN (kJ (bW (LC rfl) (by rfl) T.GZ boot_sum (aB (mQ (g:=dB 1) (tt:=yK) (te:=(lS K _ _)) rfl OL.nd (iI (aI (pv 0) rfl)) (gB (own:=[("leg",1)]) rfl) (fun _ _ _ _ _=>(pgn (i:=1) OL.nd)) (fun _ _ _ _ _=>mL) (fun _ _ _ _ _=>(aI (pv 1) rfl))) aG))))),?_⟩;refine dO (LG (ns:=W.legs.map CS.Leg.hours) fun Q q=>?_) (k H aX.rfl');refine iB (rs:=W.legs.map fun x=>(true,V.int x.hours)) (aJ (aA rfl) (by assumption) T.dM T.fO rfl) (SqL.of hl) ?_ ?_ ?_ ?_
  ·rw[List.length_map,hall.1];exact Nat.le_trans hz (by decide)
  ·rw[List.length_map,List.length_map,hall.1]
  ·intro i x r hx hr H' sm;obtain⟨a,ha,rfl⟩:=jD hx;obtain⟨y,hy,dy,hy2⟩:=hall.at' ha;rw[List.getElem?_map,hy] at hr;cases hr;have:=sm _ _ hy2;exact⟨fun Q q=>q,fun _=>aJ (aA rfl) (by assumption) T.qA T.lX rfl⟩
  ·intro D H' hD sm e;refine q D H' hD sm ?_;rw[e,mC,List.map_map];rfl
def fz(n:bL):List V→Hp→V→Prop:=fun vs H v=>∃w l W,vs=[.ref w]∧gQ n H w l W∧v=.int (CS.GY W)
theorem ae(T:Txt K mg n):bK P w K mg aT CX0 1 n.ER n.EJ ["way"] (spP (fz n)):=by
 refine bK.pure (T.DD.ok X5 (fun vs H Q E h=>?_) (fun cdv A bF s H vs Q E hr h=>?_))
 ·obtain⟨v,⟨a,b,c,rfl,_⟩,_⟩:=h;rfl
 ·obtain⟨v,⟨w,l,W,rfl,⟨⟨dw,hw⟩,_⟩,rfl⟩,k⟩:=h;refine⟨_,(aK (aN (dG oN (dG gJ (aI (pv 0) rfl) aQ) (aV rfl T.kQ)))),?_⟩;exact dO (pC (bU (aJ (aA rfl) (by assumption) T.dM T.kI rfl) aO) aO (.inr ⟨by decide,by decide⟩)) (k H aX.rfl')
def rq(n:bL):List V→Hp→V→Prop:=fun vs H v=>∃w l W,vs=[.ref w]∧gQ n H w l W∧v=.int (CS.today W)
theorem xL(T:Txt K mg n):bK P w K mg aT CX0 1 n.Q2 n.O7 ["way"] (spP (rq n)):=by
 refine bK.pure (T.vB.ok Ew (fun vs H Q E h=>?_) (fun cdv A bF s H vs Q E hr h=>?_))
 ·obtain⟨v,⟨a,b,c,rfl,_⟩,_⟩:=h;rfl
 ·obtain⟨v,⟨w,l,W,rfl,⟨⟨dw,hw⟩,_⟩,rfl⟩,k⟩:=h;refine⟨_,(aK (aN (dG ZQ (aI (pv 0) rfl) (aV rfl T.kQ)))),?_⟩;exact dO (pC (aJ (aA rfl) (by assumption) T.dM T.dS rfl) aO ⟨by decide,by decide⟩) (k H aX.rfl')
def legNo:Option Nat→Int
 |none=> -1
 |some k=>(k:Nat)
def CZ(l:List CS.Leg):Int:=(l.map CS.Leg.hours).sum
theorem Ba{l:List CS.Leg}{k:Nat}{x:CS.Leg}(h:l[k]? =some x):CZ (l.take (k+1))=CZ (l.take k)+x.hours:=by
 unfold CZ;rw[take_snoc' h,List.map_append,List.sum_append];simp
theorem wx{l:List CS.Leg}{k:Nat}{x:CS.Leg}{t:Int}(h:l[k]? =some x):CS.eM (l.drop k) t=if t < x.hours then some 0 else(CS.eM (l.drop (k+1)) (t - x.hours)).map (·+1):=by
 obtain⟨hk,e⟩:=List.getElem?_eq_some_iff.mp h;rw[List.drop_eq_getElem_cons hk,e];rfl
def Fu(n:bL):List V→Hp→V→Prop:=fun vs H v=>∃w l W t,vs=[.ref w,.int t]∧gQ n H w l W∧v=.int (legNo (CS.eM W.legs t))
theorem UL(T:Txt K mg n):bK P w K mg aT CX0 1 n.u5 n.t9 ["way","hour"] (spP (Fu n)):=by
 refine bK.pure (T.GC.ok zF (fun vs H Q E h=>?_) (fun cdv A bF s H vs Q E hr h=>?_))
 ·obtain⟨v,⟨a,b,c,d,rfl,_⟩,_⟩:=h;rfl
 ·obtain⟨v,⟨w,l,W,t,rfl,⟨⟨dw,hw⟩,as,hl,hall⟩,rfl⟩,k⟩:=h;refine⟨_,(aE (pst (i:=2) zF.nd aQ)
   (aE (sZ PassesOwn.never rfl (MD rfl T.nG (aB (aI (pv 0) rfl) aG)) (UV rfl (nQ (pgn (i:=3) zF.nd) (nQ (pgn (i:=4) zF.nd) LR))) (aE (K8 (i:=2) zF.nd rfl (by first |exact Or.inl rfl |exact Or.inr rfl) (aI (pv 4) rfl) bh)
   (aK (bS (bE tL (pv 1) (pv 2) (bD _)) (aK (aN (pv 3))) bG))))
   (aK (aN (aV rfl T.DM))))),?_⟩
  refine cI aO ?_;refine J2 rfl (xs:=as.map V.ref) (aD (aJ (aA rfl) hw T.dM T.fO rfl) aL) (SqL.of hl) (fun k σ H'=>aX H H'∧(∃v3 v4,σ=[some (.ref w),some (.int t),some (.int (CZ (W.legs.take k))),v3,v4])∧CS.eM W.legs t=(CS.eM (W.legs.drop k) (t - CZ (W.legs.take k))).map (·+k)) ?_ ?_ ?_ ?_
  ·refine⟨aX.rfl',⟨_,_,rfl⟩,?_⟩;show CS.eM W.legs t=(CS.eM W.legs (t - 0)).map (·+0);rw[Int.sub_zero];cases CS.eM W.legs t <;> rfl
  ·intro i σ H' _ ⟨sm,_⟩;exact SqL.of (sm _ _ hl)
  ·rintro i x σ H' Tp hx ⟨sm,⟨v3,v4,rfl⟩,inv⟩ nT;obtain⟨a,ha,rfl⟩:=jD hx;obtain⟨y,hy,dy,hy2⟩:=hall.at' ha;have sm2:aX H (upd H' Tp (.tup [.int (i:Nat),.ref a])):=sm.trans (aX.upd nT);have h2:=sm2 _ _ hy2;have st:=Ba hy;have dr:=wx (t:=t - CZ (W.legs.take i)) hy;refine bt rfl (aJ (aA rfl) h2 T.qA T.lX rfl) ?_;dsimp only;refine cD (bB (bU (aA rfl) (aA rfl))) (fun e=>?_) (fun e=>?_)
   ·refine dO (aA rfl) ?_;have e':t < CZ (W.legs.take i)+y.hours:=of_decide_eq_true e;rw[if_pos (by omega)] at dr;rw[dr] at inv;have:=k _ sm2;rw[inv] at this;simpa [legNo] using this
   ·have e':¬t < CZ (W.legs.take i)+y.hours:=of_decide_eq_false e;rw[if_neg (by omega)] at dr;refine⟨sm2,⟨_,_,by rw[st];rfl⟩,?_⟩;rw[inv,dr,st];rw[show t - CZ (W.legs.take i) - y.hours=t - (CZ (W.legs.take i)+y.hours) by omega]
    cases CS.eM (W.legs.drop (i+1)) (t - (CZ (W.legs.take i)+y.hours)) with
    |none=>rfl
    |some q=>simp only[Option.map_some];congr 1;omega
  ·rintro σ H' ⟨sm,⟨v3,v4,rfl⟩,inv⟩;dsimp only;refine dO aO ?_;rw[List.length_map,hall.1,List.drop_length] at inv;have:=k _ sm;rw[inv] at this;exact this
def F3(n:bL):List V→Hp→V→Prop:=fun vs H v=>∃w l W t,vs=[.ref w,.int t]∧gQ n H w l W∧v=.int (CS.eH W t)
theorem CV:∀{l:List CS.Leg} {t:Int} {k:Nat},CS.eM l t=some k→k < l.length
 |[],_,_,h=>by cases h
 |x::l,t,k,h=>by
  simp only[CS.eM] at h
  split at h
  ·cases h;simp
  ·cases e:CS.eM l (t - x.hours) with
   |none=>rw[e] at h;cases h
   |some j=>
    rw[e] at h;have hk:j+1=k:=Option.some.inj h;have:=CV e;rw[List.length_cons];omega
theorem sV(T:Txt K mg n):bK P w K mg aT CX0 2 n.NT n.PN ["way","hour"] (spP (F3 n)):=by
 refine bK.pure (T.pI.ok l6 (fun vs H Q E h=>?_) (fun cdv A bF s H vs Q E hr h=>?_))
 ·obtain⟨v,⟨a,b,c,d,rfl,_⟩,_⟩:=h;rfl
 ·obtain⟨v,⟨w,l,W,t,rfl,hW,rfl⟩,k⟩:=h;obtain⟨⟨dw,hw⟩,as,hl,hall⟩:=id hW;refine⟨_,(aE (pst (i:=2) l6.nd (pcl (UL T) hr T.v8 T.GC (v2 T) (aB (pv 0) (aB (pv 1) aG))))
   (aK (aN (tO (bE cY (pv 2) (aV rfl T.DM) (bD _)) aQ (aI (cT bV (aI (pv 0) rfl) (pv 2) (fun _ _=>rfl)) rfl))))),?_⟩
  refine cI (bI (aD (aA rfl) (aD (aA rfl) aL)) ⟨w,l,W,t,rfl,hW,rfl⟩) ?_
  have hm:CS.eH W t=match CS.eM W.legs t with |none=>0 |some q=>(W.legs.getD q ⟨0,0,0⟩).miles:=by
   unfold CS.eH CS.tH;cases CS.eM W.legs t <;> rfl
  rw[hm] at k
  cases e:CS.eM W.legs t with
  |none=>
   rw[e] at k;dsimp only;exact dO (zt (qZ (bB (cP (aA rfl) aO)) (decide_eq_true rfl)) aO) (k H aX.rfl')
  |some q=>
   rw[e] at k;have hq:=CV e;obtain⟨x,hx⟩:∃x,W.legs[q]? =some x:=⟨_,List.getElem?_eq_getElem hq⟩;obtain⟨a,ha,dx,hx2⟩:=hall.at hx;have ne:decide (((q:Nat):Int)= -1)=false:=decide_eq_false (by omega);have eg:W.legs.getD q ⟨0,0,0⟩=x:=by rw[List.getD_eq_getElem?_getD,hx];rfl
   simp only[eg] at k;exact dO (Co (qZ (bB (cP (aA rfl) aO)) ne) (aJ (cS (aJ (aA rfl) hw T.dM T.fO rfl) (aA rfl) (SqL.of hl) (oJ (D7 ha))) hx2 T.qA T.oK rfl)) (k H aX.rfl')
def E4(n:bL):List V→Hp→V→Prop:=fun vs H v=>∃w l W t,vs=[.ref w,.int t]∧gQ n H w l W∧v=.int (CS.eR W t)
theorem JK(T:Txt K mg n):bK P w K mg aT CX0 2 n.NJ n.RZ ["way","hour"] (spP (E4 n)):=by
 refine bK.pure (T.vR.ok c9 (fun vs H Q E h=>?_) (fun cdv A bF s H vs Q E hr h=>?_))
 ·obtain⟨v,⟨a,b,c,d,rfl,_⟩,_⟩:=h;rfl
 ·obtain⟨v,⟨w,l,W,t,rfl,hW,rfl⟩,k⟩:=h;obtain⟨⟨dw,hw⟩,as,hl,hall⟩:=id hW;refine⟨_,(aE (pst (i:=2) c9.nd (pcl (UL T) hr T.v8 T.GC (v2 T) (aB (pv 0) (aB (pv 1) aG))))
   (aK (aN (tO (bE cY (pv 2) (aV rfl T.DM) (bD _)) aQ (aI (cT bV (aI (pv 0) rfl) (pv 2) (fun _ _=>rfl)) rfl))))),?_⟩
  refine cI (bI (aD (aA rfl) (aD (aA rfl) aL)) ⟨w,l,W,t,rfl,hW,rfl⟩) ?_
  have hm:CS.eR W t=match CS.eM W.legs t with |none=>0 |some q=>(W.legs.getD q ⟨0,0,0⟩).knots:=by
   unfold CS.eR CS.tH;cases CS.eM W.legs t <;> rfl
  rw[hm] at k
  cases e:CS.eM W.legs t with
  |none=>
   rw[e] at k;dsimp only;exact dO (zt (qZ (bB (cP (aA rfl) aO)) (decide_eq_true rfl)) aO) (k H aX.rfl')
  |some q=>
   rw[e] at k;have hq:=CV e;obtain⟨x,hx⟩:∃x,W.legs[q]? =some x:=⟨_,List.getElem?_eq_getElem hq⟩;obtain⟨a,ha,dx,hx2⟩:=hall.at hx;have ne:decide (((q:Nat):Int)= -1)=false:=decide_eq_false (by omega);have eg:W.legs.getD q ⟨0,0,0⟩=x:=by rw[List.getD_eq_getElem?_getD,hx];rfl
   simp only[eg] at k;exact dO (Co (qZ (bB (cP (aA rfl) aO)) ne) (aJ (cS (aJ (aA rfl) hw T.dM T.fO rfl) (aA rfl) (SqL.of hl) (oJ (D7 ha))) hx2 T.qA T.rO rfl)) (k H aX.rfl')
def qb(n:bL):List V→Hp→V→Prop:=fun vs H v=>∃w l W,vs=[.ref w]∧gQ n H w l W∧v=.bl (CS.gP W)
theorem kC(T:Txt K mg n):bK P w K mg aT CX0 3 n.HQ n.HN ["way"] (spP (qb n)):=by
 refine bK.pure (T.iW.ok fj (fun vs H Q E h=>?_) (fun cdv A bF s H vs Q E hr h=>?_))
 ·obtain⟨v,⟨a,b,c,rfl,_⟩,_⟩:=h;rfl
 ·obtain⟨v,⟨w,l,W,rfl,hW,rfl⟩,k⟩:=h;obtain⟨dw,hw⟩:=hW.obj;refine⟨_,(aK (aN (gM fW (pcl (sV T) hr T.vW T.pI (wB T) (aB (pv 0) (aB (aI (pv 0) rfl) aG))) aQ (bD _)))),?_⟩;refine dO (bU (bI (aD (aA rfl) (aD (aJ (aA rfl) (by assumption) T.dM T.dS rfl) aL)) ?_) aO) (k H aX.rfl');exact⟨w,l,W,_,rfl,hW,rfl⟩
def cp(n:bL):List V→Hp→V→Prop:=fun vs H v=>∃w l W,vs=[.ref w]∧gQ n H w l W∧v=.bl (CS.kG W)
theorem SK(T:Txt K mg n):bK P w K mg aT CX0 4 n.DW n.FJ ["way"] (spP (cp n)):=by
 refine bK.pure (T.wD.ok ag (fun vs H Q E h=>?_) (fun cdv A bF s H vs Q E hr h=>?_))
 ·obtain⟨v,⟨a,b,c,rfl,_⟩,_⟩:=h;rfl
 ·obtain⟨v,⟨w,l,W,rfl,hW,rfl⟩,k⟩:=h;obtain⟨dw,hw⟩:=hW.obj;refine⟨_,(aK (aN (yZ (er (pcl (kC T) hr T.lN T.iW (lI T) (aB (pv 0) aG))) (zK (gM fW (pcl (sV T) hr T.vW T.pI (wB T) (aB (pv 0) (aB (dG gJ (aI (pv 0) rfl) aQ) aG))) aQ (bD _)))))),?_⟩;refine dO (zH (ic (bI (aD (aA rfl) aL) ?_)) fun _=>(bU (bI (aD (aA rfl) (aD (bU (aJ (aA rfl) (by assumption) T.dM T.dS rfl) aO) aL)) ?_) aO)) (k H aX.rfl')
  ·exact⟨w,l,W,rfl,hW,rfl⟩
  ·exact⟨w,l,W,_,rfl,hW,rfl⟩
def Hm(n:bL):Sp:=fun vs H Q _=>∃w l W k,vs=[.ref w]∧gQ n H w l W∧CS.eM W.legs W.hour=some k∧∀H',gQ n H' w l (CS.jN W)→Chg [w,l] H H'→Q .non H'
theorem MR(T:Txt K mg n):bK P w K mg aT CX0 3 n.qQ n.qV ["way"] (Hm n):=by
 refine T.qS.ok pG (fun vs H Q E h=>?_) (fun cdv A bF s H vs Q E hr h=>?_)
 ·obtain⟨w,l,W,k,rfl,_⟩:=h;rfl
 ·obtain⟨w,l,W,j,rfl,hW,hj,k⟩:=h;obtain⟨⟨dw,hw⟩,as,hl,hall⟩:=id hW;obtain⟨x,hx⟩:∃x,W.legs[j]? =some x:=⟨_,List.getElem?_eq_getElem (CV hj)⟩;obtain⟨a,ha,dx,hx2⟩:=hall.at hx;have hjl:j < (as.map V.ref).length:=by rw[List.length_map,hall.1];exact CV hj
  refine⟨_,(aE (pst (i:=1) pG.nd (pcl (UL T) hr T.v8 T.GC (v2 T) (aB (pv 0) (aB (aI (pv 0) rfl) aG))))
   (aE (pst (i:=2) pG.nd (cT bV (aI (pv 0) rfl) (pv 1) (fun _ _=>rfl)))
   (aE (YM (hJ T.Bq (a9 T) (hr.cF (by decide)) rfl T.m_Leg (J6 T) .nil gK (aB (dG gJ (aI (pv 2) rfl) aQ) (aB (aI (pv 2) rfl) (aB (aI (pv 2) rfl) aG)))) (UG (aI (pv 0) rfl) (pv 1) DB))
   (aK (fT (pv 0) aQ mB))))),?_⟩
  refine cI (bI (aD (aA rfl) (aD (aJ (aA rfl) hw T.dM T.dS rfl) aL)) ⟨w,l,W,W.hour,rfl,hW,rfl⟩) ?_;rw[hj];refine cI (cS (aJ (aA rfl) hw T.dM T.fO rfl) (aA rfl) (SqL.of hl) (oJ (D7 ha))) ?_;dsimp only;refine gR ?_;refine C2 (vs:=[.int (x.hours+1),.int x.miles,.int x.knots]) (aD (bU (aJ (aA rfl) hx2 T.qA T.lX rfl) aO) (aD (aJ (aA rfl) hx2 T.qA T.oK rfl) (aD (aJ (aA rfl) hx2 T.qA T.rO rfl) aL))) rfl fun y dy ny ndy hne=>?_;have s1:aX H (mkI H y dy n.qX (NX [.int (x.hours+1),.int x.miles,.int x.knots])):=aX.mkI ny ndy;have hw1:=s1 _ _ hw;have hl1:=s1 _ _ hl;refine g_sub (aJ (aA rfl) hw1 T.dM T.fO rfl) (aA rfl) hl1 (LJ hjl) ?_;have nwl:w≠l:=fV hw hl (by intro z;cases z);have nyl:y≠l:=fun q=>by rw[q,hl] at ny;cases ny
  have nyw:y≠w:=fun q=>by rw[q,hw] at ny;cases ny
  have hw2:(upd (mkI H y dy n.qX (NX [.int (x.hours+1),.int x.miles,.int x.knots])) l (.lst ((as.map V.ref).set j (.ref y)))) w=some (.ins n.kN dw (EI W l)):=by rw[bA nwl];exact hw1
  refine iN (aA rfl) hw2 T.dM T.iL rfl aO (by show 4 < 1000;decide) ?_;have c1:Chg [w,l] H (upd (mkI H y dy n.qX (NX [.int (x.hours+1),.int x.miles,.int x.knots])) l (.lst ((as.map V.ref).set j (.ref y)))):=(Chg.same s1 _).trans (Chg.upd (by simp) hl1 rfl);have c2:=c1.trans (Chg.upd (A:=[w,l]) (o:=.ins n.kN dw (cC "later" (.int (W.fC+1)) (EI W l))) (by simp) hw2 rfl);refine k _ ⟨⟨dw,?_⟩,as.set j y,?_,?_⟩ c2
  ·rw[aH];unfold CS.jN;rw[hj];rfl
  ·rw[bA (Ne.symm nwl),aH,List.map_set]
  ·have hs:(CS.jN W).legs=W.legs.set j ⟨x.hours+1,x.miles,x.knots⟩:=by
    unfold CS.jN;rw[hj];have eg:W.legs.getD j ⟨0,0,0⟩=x:=by rw[List.getD_eq_getElem?_getD,hx];rfl
    simp only[eg]
   rw[hs];refine(hall.cF fun a x r=>r.chg c2 (.inr (ZG x))).set ⟨dy,?_⟩;rw[bA nyw,bA nyl];exact aH
def mi(n:bL):Sp:=fun vs H Q _=>∃p dx a,vs=[.ref p,.int a]∧H p=some (.ins n.kN dx [])∧∀H' l,H l=none→gQ n H' p l ⟨a,0,0,[]⟩→(∀b o,H b=some o→b≠p→H' b=some o)→Q .non H'
theorem j7(T:Txt K mg n):bK P w K mg aT CX0 1 n.PY n.RD ["self","last_day"] (mi n):=by
 refine T.J7.ok nh (fun vs H Q E h=>?_) (fun cdv A bF s H vs Q E hr h=>?_)
 ·obtain⟨p,dx,a,rfl,_⟩:=h;rfl
 ·obtain⟨p,dx,a,rfl,hp,k⟩:=h;refine⟨_,(aE (bP (pv 0) (pv 1) rfl)
   (aE (bP (pv 0) aQ rfl)
   (aE (bP (pv 0) aQ rfl)
   (aK (bP (pv 0) (bJ aG) rfl))))),?_⟩
  refine cN (aA rfl) (aA rfl) hp T.dM T.kI (by show 0 < 1000;decide) ?_;refine cN aO (aA rfl) aH T.dM T.dS (by show 1 < 1000;decide) ?_;refine cN aO (aA rfl) aH T.dM T.iL (by show 2 < 1000;decide) ?_;refine jR (fun _=>aA rfl) aH T.dM T.fO (by show 3 < 1000;decide) fun l hn=>?_;have nl:l≠p:=fun q=>by rw[q,aH] at hn;cases hn
  rw[cO,cO,bA nl] at hn;refine k _ l hn ⟨⟨dx,?_⟩,[],?_,dJ.nil⟩ fun b o e hb=>?_
  ·rw[aH];rfl
  ·rw[bA nl,aH];rfl
  ·rw[bA hb,bA (bN e hn),cO,cO,bA hb];exact e
def oy(n:bL):Sp:=fun vs H Q _=>∃w l W,vs=[.ref w]∧gQ n H w l W∧∀H' w' l',H w'=none→H l'=none→gQ n H' w' l' W→aX H H'→Q (.ref w') H'
theorem pc(T:Txt K mg n):bK P w K mg aT CX0 3 n.RA n.OY ["self"] (oy n):=by
 refine T.C1.ok k0 (fun vs H Q E h=>?_) (fun cdv A bF s H vs Q E hr h=>?_)
 ·obtain⟨w,l,W,rfl,_⟩:=h;rfl
 ·obtain⟨w,l,W,rfl,hW,k⟩:=h;obtain⟨⟨dw,hw⟩,as,hl,hall⟩:=id hW;refine⟨_,(aE (pst (i:=1) k0.nd (hJ T.Bn (j7 T) (hr.cF (by decide)) rfl T.m_Way (C5 T) .nil gK (aB (aI (pv 0) rfl) aG)))
   (aE (bP (pv 1) (aI (pv 0) rfl) rfl)
   (aE (bP (pv 1) (aI (pv 0) rfl) rfl)
   (aE (bP (pv 1) (mS lY (by rfl) T.tF PyProof.Rows.boot_list (aB (aI (pv 0) rfl) aG)) rfl)
   (aK (aN (pv 1))))))),?_⟩
  refine gR ((aD (aJ (aA rfl) hw T.dM T.kI rfl) aL) _ fun x dx nx ndx hne=>⟨x,dx,W.last,rfl,aH,fun H1 l1 hl1 hW1 keep=>⟨rfl,?_⟩⟩);have s1:aX H H1:=aX.made nx ndx keep;obtain⟨⟨dx1,hx1⟩,_⟩:=hW1;have hw1:=s1 _ _ hw;have nwx:w≠x:=bN hw nx;have nlx:l≠x:=bN hl nx;refine cN (aJ (aA rfl) hw1 T.dM T.dS rfl) (aA rfl) hx1 T.dM T.dS (by show 4 < 1000;decide) ?_;refine cN (aJ (aA rfl) (aZ nwx hw1) T.dM T.iL rfl) (aA rfl) aH T.dM T.iL (by show 4 < 1000;decide) ?_;rw[cO];refine rM (aJ (aA rfl) (aZ nwx hw1) T.dM T.fO rfl) (SqL.of (aZ nlx (s1 _ _ hl))) (fun _=>aA rfl) aH T.dM T.fO (by show 4 < 1000;decide) fun l' hn=>?_;have nlx':l'≠x:=fun q=>by rw[q,aH] at hn;cases hn
  rw[bA nlx'] at hn;refine dO (aA rfl) ?_;have s2:aX H (upd (upd (upd H1 x (.ins n.kN dx1 (cC "later" (.int W.fC) (cC "hour" (.int W.hour) (EI ⟨W.last,0,0,[]⟩ l1))))) l' (.lst (as.map V.ref))) x (.ins n.kN dx1 (cC "legs" (.ref l') (cC "later" (.int W.fC) (cC "hour" (.int W.hour) (EI ⟨W.last,0,0,[]⟩ l1)))))):=fun b o e=>by
   rw[bA (bN e nx),bA (bN (s1 _ _ e) hn),bA (bN e nx)];exact s1 _ _ e
  refine k _ x l' nx (s1.free hn) ⟨⟨dx1,?_⟩,as,?_,hall.cF fun a y r=>r.same s2⟩ s2
  ·rw[aH];rfl
  ·rw[bA nlx',aH]
end
theorem Aj{H:Hp}{a:Addr}{o:HO}(e:H a=some o):upd H a o=H:=by
 funext b
 unfold upd
 by_cases h:b=a
 ·rw[if_pos h,h,e]
 ·rw[if_neg h]
def lH(T:CS.eP):List (Str×V):=[("uses",.int T.uses),("fresh_most",.int T.freshMost),("makes",.int T.makes),("grey_most",.int T.greyMost),("black_most",.int T.blackMost),("fresh",.int T.fresh),("grey",.int T.grey),("black",.int T.black),("making",.int T.making),("grey_goes",.int T.nF),("black_goes",.int T.lM),("taken_in",.int T.uS),("used",.int T.used)]
def LH:List V→List (Str×V)
 |[a,b,c,d,e]=>[("uses",a),("fresh_most",b),("makes",c),("grey_most",d),("black_most",e),("fresh",b),("grey",.int 0),("black",.int 0),("making",.int 0),("grey_goes",.int 0),("black_goes",.int 0),("taken_in",.int 0),("used",.int 0)]
 |_=>[]
section
variable{P:Program}{w:World}{K:PySem.W.Frag}{mg:Str→Option Value}{aT:Heap}{n:bL}
theorem TY(T:Txt K mg n):bK P w K mg aT CX0 1 n.DO n.EH ["self","uses","fresh_most","makes","grey_most","black_most"] (spI n.dI 5 LH):=by
 refine T.WZ.ok X6 (fun vs H Q E h=>?_) (fun cdv A bF s H vs Q E hr h=>?_)
 ·obtain⟨p,dx,args,rfl,hl,_⟩:=h;show args.length+1=6;rw[hl]
 ·obtain⟨p,dx,args,rfl,hl,hp,k⟩:=h
  match args,hl,k with
  |[a,b,c,d,e],_,k=>
   refine⟨_,(aE (bP (pv 0) (pv 1) rfl)
   (aE (bP (pv 0) (pv 2) rfl)
   (aE (bP (pv 0) (pv 3) rfl)
   (aE (bP (pv 0) (pv 4) rfl)
   (aE (bP (pv 0) (pv 5) rfl)
   (aE (bP (pv 0) (pv 2) rfl)
   (aE (bP (pv 0) aQ rfl)
   (aE (bP (pv 0) aQ rfl)
   (aE (bP (pv 0) aQ rfl)
   (aE (bP (pv 0) aQ rfl)
   (aE (bP (pv 0) aQ rfl)
   (aE (bP (pv 0) aQ rfl)
   (aK (bP (pv 0) aQ rfl)))))))))))))),?_⟩
   refine cN (aA rfl) (aA rfl) hp T.bQ T.pV (by show 0 < 1000;decide) ?_;refine cN (aA rfl) (aA rfl) aH T.bQ T.jI (by show 1 < 1000;decide) ?_;refine cN (aA rfl) (aA rfl) aH T.bQ T.oE (by show 2 < 1000;decide) ?_;refine cN (aA rfl) (aA rfl) aH T.bQ T.kD (by show 3 < 1000;decide) ?_;refine cN (aA rfl) (aA rfl) aH T.bQ T.jJ (by show 4 < 1000;decide) ?_;refine cN (aA rfl) (aA rfl) aH T.bQ T.fI (by show 5 < 1000;decide) ?_;refine cN aO (aA rfl) aH T.bQ T.fX (by show 6 < 1000;decide) ?_;refine cN aO (aA rfl) aH T.bQ T.fJ (by show 7 < 1000;decide) ?_;refine cN aO (aA rfl) aH T.bQ T.iF (by show 8 < 1000;decide) ?_;refine cN aO (aA rfl) aH T.bQ T.gG (by show 9 < 1000;decide) ?_;refine cN aO (aA rfl) aH T.bQ T.fS (by show 10 < 1000;decide) ?_;refine cN aO (aA rfl) aH T.bQ T.gO (by show 11 < 1000;decide) ?_;refine cN aO (aA rfl) aH T.bQ T.kU (by show 12 < 1000;decide) ?_;simp only[cO];exact k
def Y5(n:bL):Sp:=fun vs H Q _=>∃t dt T,vs=[.ref t]∧H t=some (.ins n.dI dt (lH T))∧∀H' t',H t'=none→gH H' n.dI t' (lH T)→aX H H'→Q (.ref t') H'
theorem TB(T:Txt K mg n):bK P w K mg aT CX0 3 n.GA n.EE ["self"] (Y5 n):=by
 refine T.XD.ok TL (fun vs H Q E h=>?_) (fun cdv A bF s H vs Q E hr h=>?_)
 ·obtain⟨t,dt,T',rfl,_⟩:=h;rfl
 ·obtain⟨t,dt,Z,rfl,ht,k⟩:=h;refine⟨_,(aE (pst (i:=1) TL.nd (hJ T.cz (TY T) (hr.cF (by decide)) rfl T.sf (XN T) .nil gK (aB (aI (pv 0) rfl) (aB (aI (pv 0) rfl) (aB (aI (pv 0) rfl) (aB (aI (pv 0) rfl) (aB (aI (pv 0) rfl) aG)))))))
   (aE (bP (pv 1) (aI (pv 0) rfl) rfl)
   (aE (bP (pv 1) (aI (pv 0) rfl) rfl)
   (aE (bP (pv 1) (aI (pv 0) rfl) rfl)
   (aE (bP (pv 1) (aI (pv 0) rfl) rfl)
   (aE (bP (pv 1) (aI (pv 0) rfl) rfl)
   (aE (bP (pv 1) (aI (pv 0) rfl) rfl)
   (aE (bP (pv 1) (aI (pv 0) rfl) rfl)
   (aE (bP (pv 1) (aI (pv 0) rfl) rfl)
   (aK (aN (pv 1)))))))))))),?_⟩
  refine gR ?_;refine C2 (vs:=[.int Z.uses,.int Z.freshMost,.int Z.makes,.int Z.greyMost,.int Z.blackMost]) (aD (aJ (aA rfl) ht T.bQ T.pV rfl) (aD (aJ (aA rfl) ht T.bQ T.jI rfl) (aD (aJ (aA rfl) ht T.bQ T.oE rfl) (aD (aJ (aA rfl) ht T.bQ T.kD rfl) (aD (aJ (aA rfl) ht T.bQ T.jJ rfl) aL))))) rfl fun y dy ny ndy hne=>?_;have nty:t≠y:=bN ht ny;have s1:aX H (mkI H y dy n.dI (LH [.int Z.uses,.int Z.freshMost,.int Z.makes,.int Z.greyMost,.int Z.blackMost])):=aX.mkI ny ndy;have ht1:=s1 _ _ ht;refine cN (aJ (aA rfl) ht1 T.bQ T.fI rfl) (aA rfl) aH T.bQ T.fI (by show 13 < 1000;decide) ?_;rw[cO];refine cN (aJ (aA rfl) (aZ nty (aZ (bN ht ndy) ht)) T.bQ T.fX rfl) (aA rfl) aH T.bQ T.fX (by show 13 < 1000;decide) ?_;rw[cO];refine cN (aJ (aA rfl) (aZ nty (aZ (bN ht ndy) ht)) T.bQ T.fJ rfl) (aA rfl) aH T.bQ T.fJ (by show 13 < 1000;decide) ?_;rw[cO];refine cN (aJ (aA rfl) (aZ nty (aZ (bN ht ndy) ht)) T.bQ T.iF rfl) (aA rfl) aH T.bQ T.iF (by show 13 < 1000;decide) ?_;rw[cO];refine cN (aJ (aA rfl) (aZ nty (aZ (bN ht ndy) ht)) T.bQ T.gG rfl) (aA rfl) aH T.bQ T.gG (by show 13 < 1000;decide) ?_;rw[cO];refine cN (aJ (aA rfl) (aZ nty (aZ (bN ht ndy) ht)) T.bQ T.fS rfl) (aA rfl) aH T.bQ T.fS (by show 13 < 1000;decide) ?_;rw[cO];refine cN (aJ (aA rfl) (aZ nty (aZ (bN ht ndy) ht)) T.bQ T.gO rfl) (aA rfl) aH T.bQ T.gO (by show 13 < 1000;decide) ?_;rw[cO];refine cN (aJ (aA rfl) (aZ nty (aZ (bN ht ndy) ht)) T.bQ T.kU rfl) (aA rfl) aH T.bQ T.kU (by show 13 < 1000;decide) ?_;rw[cO];refine dO (aA rfl) ?_;refine k _ y ny ⟨dy,?_⟩ fun b o e=>?_
  ·rw[aH];rfl
  ·exact aZ (bN e ny) (aZ (bN e ndy) e)
def rb(n:bL)(f:CS.eP→V):List V→Hp→V→Prop:=fun vs H v=>∃t dt T,vs=[.ref t]∧H t=some (.ins n.dI dt (lH T))∧v=f T
theorem SR(T:Txt K mg n):bK P w K mg aT CX0 1 n.FZ n.EG ["tanks"] (spP (rb n fun T=>.int (CS.mY T))):=by
 refine bK.pure (T.wM.ok X0 (fun vs H Q E h=>?_) (fun cdv A bF s H vs Q E hr h=>?_))
 ·obtain⟨v,⟨a,b,c,rfl,_⟩,_⟩:=h;rfl
 ·obtain⟨v,⟨t,dt,Z,rfl,ht,rfl⟩,k⟩:=h;refine⟨_,(aK (aN (dG mX (aI (pv 0) rfl) (aI (pv 0) rfl)))),?_⟩;exact dO (bU (aJ (aA rfl) (by assumption) T.bQ T.jI rfl) (aJ (aA rfl) (by assumption) T.bQ T.fI rfl)) (k H aX.rfl')
theorem Al(T:Txt K mg n):bK P w K mg aT CX0 1 n.A9 n.o8 ["tanks"] (spP (rb n fun T=>.int (CS.F1 T))):=by
 refine bK.pure (T.n9.ok XT (fun vs H Q E h=>?_) (fun cdv A bF s H vs Q E hr h=>?_))
 ·obtain⟨v,⟨a,b,c,rfl,_⟩,_⟩:=h;rfl
 ·obtain⟨v,⟨t,dt,Z,rfl,ht,rfl⟩,k⟩:=h;refine⟨_,(aE (pst (i:=1) XT.nd (dG mX (aI (pv 0) rfl) (aI (pv 0) rfl)))
   (aE (pst (i:=2) XT.nd (dG mX (aI (pv 0) rfl) (aI (pv 0) rfl)))
   (aK (aN (bW (Ck rfl) (by rfl) T.QC boot_min (aB (aI (pv 0) rfl) (aB (dG ZQ (dG gJ (dG oN (pv 1) aQ) aQ) aQ) (aB (dG oN (pv 2) aQ) aG)))))))),?_⟩
  refine cI (bU (aJ (aA rfl) (by assumption) T.bQ T.kD rfl) (aJ (aA rfl) (by assumption) T.bQ T.fX rfl)) ?_;refine cI (bU (aJ (aA rfl) (by assumption) T.bQ T.jJ rfl) (aJ (aA rfl) (by assumption) T.bQ T.fJ rfl)) ?_;refine dO (dR (Hv (aJ (aA rfl) (by assumption) T.bQ T.fI rfl) (pC (bU (pC (aA rfl) aO (.inr ⟨by decide,by decide⟩)) aO) aO ⟨by decide,by decide⟩) (pC (aA rfl) aO (.inr ⟨by decide,by decide⟩))) ?_) (k H aX.rfl');show V.int _=V.int _;congr 1;unfold min3 CS.F1;generalize ((Z.greyMost - Z.grey)*10+9) / 9=a;generalize (Z.blackMost - Z.black)*10=b;omega
def Da:List V→Hp→V→Prop:=fun vs _ v=>∃a,vs=[.int a]∧v=.int (CS.greyOf a)
theorem D9(T:Txt K mg n):bK P w K mg aT CX0 1 n.UR n.VW ["used"] (spP Da):=by
 refine bK.pure (T.GJ.ok yh (fun vs H Q E h=>?_) (fun cdv A bF s H vs Q E hr h=>?_))
 ·obtain⟨v,⟨a,rfl,_⟩,_⟩:=h;rfl
 ·obtain⟨v,⟨a,rfl,rfl⟩,k⟩:=h;refine⟨_,(aK (aN (dG ZQ (dG oN (pv 0) aQ) aQ))),?_⟩;exact dO (pC (pC (aA rfl) aO (.inr ⟨by decide,by decide⟩)) aO ⟨by decide,by decide⟩) (k H aX.rfl')
def spT(n:bL)(vsOf:Addr→List V)(f:CS.eP→CS.eP)(r:CS.eP→V)(ok:CS.eP→Prop)(H:Hp)(Q:VK)(vs:List V):Prop:=∃t dt T,vs=vsOf t∧ok T∧H t=some (.ins n.dI dt (lH T))∧Q (r T) (upd H t (.ins n.dI dt (lH (f T))))
def vh(n:bL):Sp:=fun vs H Q _=>∃i,spT n (fun t=>[.ref t,.int i]) (fun T=>CS.FM T i) (fun _=>.non) (fun _=>True) H Q vs
theorem C9(T:Txt K mg n):bK P w K mg aT CX0 1 n.UK n.YV ["tanks","litres"] (vh n):=by
 refine T.HJ.ok tw (fun vs H Q E h=>?_) (fun cdv A bF s H vs Q E hr h=>?_)
 ·obtain⟨i,t,dt,Z,rfl,_⟩:=h;rfl
 ·obtain⟨i,t,dt,Z,rfl,_,ht,k⟩:=h;refine⟨_,(aE (fT (pv 0) (pv 1) mB)
   (aK (fT (pv 0) (pv 1) mB))),?_⟩
  refine iN (aA rfl) ht T.bQ T.fI rfl (aA rfl) (by show 13 < 1000;decide) ?_;refine iN (aA rfl) aH T.bQ T.gO rfl (aA rfl) (by show 13 < 1000;decide) ?_;rw[cO];exact k
def zy(n:bL):Sp:=fun vs H Q _=>∃m k,spT n (fun t=>[.ref t,.int m,.int k]) (fun T=>CS.letGo T m k) (fun _=>.non) (fun _=>True) H Q vs
theorem Ca(T:Txt K mg n):bK P w K mg aT CX0 1 n.z9 n.r6 ["tanks","miles","knots"] (zy n):=by
 refine T.o9.ok Ag (fun vs H Q E h=>?_) (fun cdv A bF s H vs Q E hr h=>?_)
 ·obtain⟨m,k,t,dt,Z,rfl,_⟩:=h;rfl
 ·obtain⟨m,kn,t,dt,Z,rfl,_,ht,k⟩:=h;refine⟨_,(aE (bS (PW.pt (oQ (bE cY (aI (pv 0) rfl) aQ (bD _)) (oQ (bE rD (pv 1) aQ (bD _)) (oF (bE rD (pv 2) aQ (bD _)))))) (aK (bP (pv 0) aQ rfl)) bG)
   (aK (bS (PW.pt (oQ (bE cY (aI (pv 0) rfl) aQ (bD _)) (oQ (bE rD (pv 1) aQ (bD _)) (oF (bE rD (pv 2) aQ (bD _)))))) (aK (bP (pv 0) aQ rfl)) bG))),?_⟩
  have key:∀(Y:CS.eP) (H1:Hp) (h1:H1 t=some (.ins n.dI dt (lH Y))),Q .non (upd H1 t (.ins n.dI dt (lH (if Y.lM=1∧m≥12∧kn≥4 then { Y with black:=0 } else Y))))→
    tIfS (tAnd (qW (tOp rEq (lS K (fZ 0) "black_goes") (tC (.int 1)))) (tAnd (qW (tOp (rI0 fun i j=>.bl (decide (j≤i))) (fZ 1) (tC (.int 12)))) (qW (tOp (rI0 fun i j=>.bl (decide (j≤i))) (fZ 2) (tC (.int 4)))))) (MS K (fZ 0) (tC (.int 0)) "black") bT { nx:=fun _ H'=>Q .non H',rt:=Q } [some (.ref t),some (.int m),some (.int kn)] H1:=by
   intro Y H1 h1 q;refine cD (oR (bB (cP (aJ (aA rfl) h1 T.bQ T.fS rfl) aO)) fun _=>oR (bB (bU (aA rfl) aO)) fun _=>bB (bU (aA rfl) aO)) (fun e=>?_) (fun e=>?_)
   ·simp only[Bool.and_eq_true,decide_eq_true_eq] at e;rw[if_pos ⟨e.1,e.2.1,e.2.2⟩] at q;exact cN aO (aA rfl) h1 T.bQ T.fJ (by show 13 < 1000;decide) q
   ·rw[if_neg (by
     intro z;rw[decide_eq_true z.1,decide_eq_true z.2.1,decide_eq_true z.2.2] at e;cases e),Aj h1] at q
    exact q
  refine cD (oR (bB (cP (aJ (aA rfl) ht T.bQ T.gG rfl) aO)) fun _=>oR (bB (bU (aA rfl) aO)) fun _=>bB (bU (aA rfl) aO)) (fun e=>?_) (fun e=>?_)
  ·simp only[Bool.and_eq_true,decide_eq_true_eq] at e;refine cN aO (aA rfl) ht T.bQ T.fX (by show 13 < 1000;decide) ?_
   refine key { Z with grey:=0 } _ aH ?_
   rw[cO];have:=k;unfold CS.letGo at this;simp only[if_pos (show Z.nF=1∧m≥4∧kn≥6 from⟨e.1,e.2.1,e.2.2⟩)] at this;exact this
  ·refine key Z H ht ?_;have:=k;unfold CS.letGo at this;simp only[if_neg (show ¬(Z.nF=1∧m≥4∧kn≥6) by
     intro z;rw[decide_eq_true z.1,decide_eq_true z.2.1,decide_eq_true z.2.2] at e;cases e)] at this
   exact this
def Hf(n:bL):Sp:=fun vs H Q _=>∃m,spT n (fun t=>[.ref t,.int m]) (fun T=>CS.vZ T m) (fun _=>.non) (fun _=>True) H Q vs
theorem Hn(T:Txt K mg n):bK P w K mg aT CX0 2 n.ij n.jk ["tanks","miles"] (Hf n):=by
 refine T.gy.ok He (fun vs H Q E h=>?_) (fun cdv A bF s H vs Q E hr h=>?_)
 ·obtain⟨m,t,dt,Z,rfl,_⟩:=h;rfl
 ·obtain⟨m,t,dt,Z,rfl,_,ht,k⟩:=h;refine⟨_,(aK (bS (PW.pt (oQ (bE cY (aI (pv 0) rfl) aQ (bD _)) (oF (bE rD (pv 1) aQ (bD _))))) (aK (eQ (pcl (C9 T) hr T.U3 T.HJ (V7 T) (aB (pv 0) (aB (bW (GR rfl) (by rfl) T.QC boot_min (aB (aI (pv 0) rfl) (aB (pcl (SR T) hr T.VA T.wM (XA T) (aB (pv 0) aG)) aG))) aG))))) bG)),?_⟩;unfold CS.vZ at k;dsimp only at k;refine cD (oR (bB (cP (aJ (aA rfl) (by assumption) T.bQ T.iF rfl) aO)) fun _=>(bB (bU (aA rfl) aO))) (fun e=>?_) (fun e=>?_)
  ·simp only[Bool.and_eq_true,decide_eq_true_eq] at e;rw[if_pos ⟨e.1,e.2⟩] at k;refine cG (vs:=[.ref t,.int (CS.kY Z.makes (CS.mY Z))]) (aD (aA rfl) (aD (E9 (aJ (aA rfl) ht T.bQ T.oE rfl) (bI (aD (aA rfl) aL) ⟨t,dt,Z,rfl,ht,rfl⟩)) aL)) ?_;exact⟨_,t,dt,Z,rfl,trivial,ht,k⟩
  ·rw[if_neg (by
    intro z;rw[decide_eq_true z.1,decide_eq_true z.2] at e;cases e),Aj ht] at k
   exact k
def sp_use(n:bL):Sp:=fun vs H Q _=>∃i,spT n (fun t=>[.ref t,.int i]) (fun T=>CS.use T i) (fun T=>.int (i - CS.zG T i)) (fun _=>True) H Q vs
theorem ok_use(T:Txt K mg n):bK P w K mg aT CX0 2 n.ue n.wz ["tanks","wanted"] (sp_use n):=by
 refine T.uq.ok At (fun vs H Q E h=>?_) (fun cdv A bF s H vs Q E hr h=>?_)
 ·obtain⟨m,t,dt,Z,rfl,_⟩:=h;rfl
 ·obtain⟨i,t,dt,Z,rfl,_,ht,k⟩:=h;refine⟨_,(aE (pst (i:=2) At.nd (bW (GR rfl) (by rfl) T.QC boot_min (aB (pv 1) (aB (pcl (Al T) hr T.Fd T.n9 (Fw T) (aB (pv 0) aG)) aG))))
   (aE (fT (pv 0) (pv 2) jm)
   (aE (fT (pv 0) (pv 2) mB)
   (aE (fT (pv 0) (pcl (D9 T) hr T.R8 T.GJ (V6 T) (aB (pv 2) aG)) mB)
   (aE (fT (pv 0) (dG mX (pv 2) (pcl (D9 T) hr T.R8 T.GJ (V6 T) (aB (pv 2) aG))) mB)
   (aK (aN (dG mX (pv 1) (pv 2))))))))),?_⟩
  refine cI (v:=.int (CS.zG Z i)) (E9 (aA rfl) (bI (aD (aA rfl) aL) ⟨t,dt,Z,rfl,ht,rfl⟩)) ?_;refine o7 (aA rfl) ht T.bQ T.fI rfl (aA rfl) (by show 13 < 1000;decide) ?_;refine iN (aA rfl) aH T.bQ T.kU rfl (aA rfl) (by show 13 < 1000;decide) ?_;rw[cO];refine iN (aA rfl) aH T.bQ T.fX rfl (bI (v:=.int (CS.greyOf (CS.zG Z i))) (aD (aA rfl) aL) ⟨_,rfl,rfl⟩) (by show 13 < 1000;decide) ?_;rw[cO];refine iN (aA rfl) aH T.bQ T.fJ rfl (bU (aA rfl) (bI (v:=.int (CS.greyOf (CS.zG Z i))) (aD (aA rfl) aL) ⟨_,rfl,rfl⟩)) (by show 13 < 1000;decide) ?_;rw[cO];exact dO (bU (aA rfl) (aA rfl)) k
def Ef(n:bL):List V→Hp→V→Prop:=fun vs H v=>∃t dt T a,vs=[.ref t,.int a]∧(-(2 ^ 64) < a∧a < 2 ^ 64)∧H t=some (.ins n.dI dt (lH T))∧v=.int (a*T.uses)
theorem BR(T:Txt K mg n):bK P w K mg aT CX0 1 n.uG n.uN ["tanks","aboard"] (spP (Ef n)):=by
 refine bK.pure (T.pF.ok ZU (fun vs H Q E h=>?_) (fun cdv A bF s H vs Q E hr h=>?_))
 ·obtain⟨v,⟨a,b,c,_,rfl,_⟩,_⟩:=h;rfl
 ·obtain⟨v,⟨t,dt,Z,a,rfl,ha,ht,rfl⟩,k⟩:=h;refine⟨_,(aK (aN (dG oN (pv 1) (aI (pv 0) rfl)))),?_⟩;exact dO (pC (aA rfl) (aJ (aA rfl) ht T.bQ T.pV rfl) (.inl ha)) (k H aX.rfl')
def SM(n:bL):Sp:=fun vs H Q _=>∃m kn a,(-(2 ^ 64) < a∧a < 2 ^ 64)∧spT n (fun t=>[.ref t,.int m,.int kn,.int a]) (fun T=>CS.iU T m kn a) (fun T=>.int (CS.mJ T m kn a)) (fun _=>True) H Q vs
theorem SO(T:Txt K mg n):bK P w K mg aT CX0 3 n.DY n.FU ["tanks","miles","knots","aboard"] (SM n):=by
 refine T.wC.ok X1 (fun vs H Q E h=>?_) (fun cdv A bF s H vs Q E hr h=>?_)
 ·obtain⟨m,kn,a,_,t,dt,Z,rfl,_⟩:=h;rfl
 ·obtain⟨m,kn,a,ha,t,dt,Z,rfl,_,ht,k⟩:=h;refine⟨_,(aE (eQ (pcl (Ca T) hr T.Eb T.o9 (Fc T) (aB (pv 0) (aB (pv 1) (aB (pv 2) aG)))))
   (aE (eQ (pcl (Hn T) hr T.m_make T.gy (b_make T) (aB (pv 0) (aB (pv 1) aG))))
   (aK (aN (pcl (ok_use T) hr T.m_use T.uq (b_use T) (aB (pv 0) (aB (pcl (BR T) hr T.DX T.pF (FE T) (aB (pv 0) (aB (pv 3) aG))) aG))))))),?_⟩
  refine cG (vs:=[.ref t,.int m,.int kn]) (aD (aA rfl) (aD (aA rfl) (aD (aA rfl) aL))) ⟨m,kn,t,dt,Z,rfl,trivial,ht,?_⟩;refine cG (vs:=[.ref t,.int m]) (aD (aA rfl) (aD (aA rfl) aL)) ⟨m,t,dt,_,rfl,trivial,aH,?_⟩;rw[cO];have hu:(CS.vZ (CS.letGo Z m kn) m).uses=Z.uses:=by
   have h1:(CS.letGo Z m kn).uses=Z.uses:=by
    unfold CS.letGo;simp only[]
    split <;> split <;> rfl
   unfold CS.vZ CS.FM
   split
   ·exact h1
   ·exact h1
  refine cG (vs:=[.ref t,.int (a*(CS.vZ (CS.letGo Z m kn) m).uses)]) (aD (aA rfl) (aD (bI (aD (aA rfl) (aD (aA rfl) aL)) ⟨t,dt,_,a,rfl,ha,aH,rfl⟩) aL)) ⟨_,t,dt,_,rfl,trivial,aH,?_⟩;rw[cO,hu];exact k
end
section
variable{K:PySem.W.Frag}{σ:L2.St}{H:Hp}{to:TE}{l C:Addr}{xs:List V}{y:V}{k:Nat}{F:List V→List (Str×V)}{E:XK}{t:TA}{vs:List V}{D:lB}
theorem sC(ho:EV to σ H (.ref l))(hl:H l=some (.lst xs))(ha:EA t σ H vs)(hk:vs.length=k)(hz:xs.length < sizeLine)(q:∀y dy,H y=none→H dy=none→dy≠y→D.nx σ (upd (mkI H y dy C (F vs)) l (.lst (xs++[.ref y])))):
  BZ (tBM K "list" CK to (dD (GV C (spI C k F) [] E t) eU)) D σ H:=
 ho _ ⟨.inl ⟨rfl,xs,SqL.of hl⟩,C2 ha hk fun y dy ny ndy hne=>⟨l,xs,.ref y,rfl,rfl,aX.mkI ny ndy _ _ hl,hz,q y dy ny ndy hne⟩⟩
theorem s_pop{i:Nat}(ho:EV to σ H (.ref l))(hl:H l=some (.lst (xs++[y])))(q:D.nx (σ.set i (some y)) (upd H l (.lst xs))):IM (tBM0 K "list" rPop to) (dB i) D σ H:=
 ho _ ⟨.inl ⟨rfl,_,SqL.of hl⟩,l,_,y,rfl,rfl,hl,by simp,by rw[List.dropLast_concat];exact q⟩
end
def rE(G:CS.Good)(l:Addr):List (Str×V):=[("per",.int G.per),("life",.int G.life),("lots",.ref l),("loaded",.int G.loaded),("eaten",.int G.eaten),("spoilt",.int G.spoilt),("lacked",.int G.lacked)]
structure fL(n:bL)(H:Hp)(g l:Addr)(G:CS.Good):Prop where
 obj:gH H n.eW g (rE G l)
 lots:lZ H n.oX lotF l G.lots
theorem fL.same{n:bL}{H H':Hp}{g l:Addr}{G:CS.Good}(h:fL n H g l G)(s:aX H H'):fL n H' g l G:=⟨h.obj.same s,h.lots.same s⟩
theorem fL.chg{n:bL}{H H':Hp}{g l:Addr}{G:CS.Good}{A:List Addr}(h:fL n H g l G)(s:Chg A H H')(hg:g∉A)(hl:l∉A):fL n H' g l G:=⟨h.obj.chg s (.inl hg),h.lots.chg s hl yP⟩
def ra(S:CS.gC)(l:Addr):List (Str×V):=[("room",.int S.room),("goods",.ref l)]
structure gI(n:bL)(H:Hp)(s l:Addr)(gs:List (Addr×Addr))(S:CS.gC):Prop where
 obj:gH H n.nH s (ra S l)
 lst:H l=some (.lst (gs.map fun p=>V.ref p.1))
 goods:dJ (fun p G=>fL n H p.1 p.2 G) gs S.goods
theorem gI.same{n:bL}{H H':Hp}{s l:Addr}{gs:List (Addr×Addr)}{S:CS.gC}(h:gI n H s l gs S)(sm:aX H H'):gI n H' s l gs S:=⟨h.obj.same sm,sm _ _ h.lst,h.goods.cF fun _ _ r=>r.same sm⟩
def K0:List V→List (Str×V)
 |[a,b]=>[("good_to",a),("units",b)]
 |_=>[]
section
variable{P:Program}{w:World}{K:PySem.W.Frag}{mg:Str→Option Value}{aT:Heap}{n:bL}
theorem f6(T:Txt K mg n):bK P w K mg aT CX0 1 n.PZ n.MG ["self","good_to","units"] (spI n.oX 2 K0):=by
 refine T.G1.ok kb (fun vs H Q E h=>?_) (fun cdv A bF s H vs Q E hr h=>?_)
 ·obtain⟨p,dx,args,rfl,hl,_⟩:=h;show args.length+1=3;rw[hl]
 ·obtain⟨p,dx,args,rfl,hl,hp,k⟩:=h
  match args,hl,k with
  |[a,b],_,k=>
   refine⟨_,(aE (bP (pv 0) (pv 1) rfl)
   (aK (bP (pv 0) (pv 2) rfl))),?_⟩
   refine cN (aA rfl) (aA rfl) hp T.pW T.jT (by show 0 < 1000;decide) ?_;refine cN (aA rfl) (aA rfl) aH T.pW T.jA (by show 1 < 1000;decide) ?_;rw[cO];exact k
def ye(n:bL):List V→Hp→V→Prop:=fun vs H v=>∃g l G,vs=[.ref g]∧fL n H g l G∧G.lots.length≤1000∧v=.int (CS.sN G)
theorem KA(T:Txt K mg n):bK P w K mg aT CX0 1 n.RN n.QX ["good"] (spP (ye n)):=by
 refine bK.pure (T.vE.ok JT (fun vs H Q E h=>?_) (fun cdv A bF s H vs Q E hr h=>?_))
 ·obtain⟨v,⟨a,b,c,rfl,_⟩,_⟩:=h;rfl
 ·obtain⟨v,⟨g,l,G,rfl,⟨⟨dg,hg⟩,as,hl,hall⟩,hz,rfl⟩,k⟩:=h;refine⟨_,(aK (aN (kJ (bW (LC rfl) (by rfl) T.GZ boot_sum (aB (mQ (g:=dB 1) (tt:=yK) (te:=(lS K _ _)) rfl JT.nd (iI (aI (pv 0) rfl)) (gB (own:=[("lot",1)]) rfl) (fun _ _ _ _ _=>(pgn (i:=1) JT.nd)) (fun _ _ _ _ _=>mL) (fun _ _ _ _ _=>(aI (pv 1) rfl))) aG))))),?_⟩;refine dO (LG (ns:=G.lots.map CS.Lot.units) fun Q q=>?_) (k H aX.rfl');refine iB (rs:=G.lots.map fun x=>(true,V.int x.units)) (aJ (aA rfl) hg T.dE T.fA rfl) (SqL.of hl) ?_ ?_ ?_ ?_
  ·rw[List.length_map,hall.1];exact Nat.le_trans hz (by decide)
  ·rw[List.length_map,List.length_map,hall.1]
  ·intro i x r hx hr H' sm;obtain⟨a,ha,rfl⟩:=jD hx;obtain⟨y,hy,dy,hy2⟩:=hall.at' ha;rw[List.getElem?_map,hy] at hr;cases hr;exact⟨fun Q q=>q,fun _=>aJ (aA rfl) (sm _ _ hy2) T.pW T.jA rfl⟩
  ·intro D H' hD sm e;refine q D H' hD sm ?_;rw[e,mC,List.map_map];rfl
theorem LU{gs:List (Addr×Addr)}{i:Nat}{v:V}(h:(gs.map fun p=>V.ref p.1)[i]? =some v):∃p,gs[i]? =some p∧v=.ref p.1:=by
 rw[List.getElem?_map] at h
 cases e:gs[i]? with
 |none=>rw[e] at h;cases h
 |some a=>rw[e] at h;exact⟨a,rfl,(Option.some.inj h).symm⟩
def sD(S:CS.gC):Prop:=S.goods.length≤1000∧∀G∈S.goods,G.lots.length≤1000
def jr(n:bL)(f:CS.gC→V):List V→Hp→V→Prop:=fun vs H v=>∃s l gs S,vs=[.ref s]∧gI n H s l gs S∧sD S∧v=f S
theorem B7(T:Txt K mg n):bK P w K mg aT CX0 2 n.yG n.yO ["stores"] (spP (jr n fun S=>.int (CS.uC S))):=by
 refine bK.pure (T.yM.ok vP (fun vs H Q E h=>?_) (fun cdv A bF s H vs Q E hr h=>?_))
 ·obtain⟨v,⟨a,b,c,d,rfl,_⟩,_⟩:=h;rfl
 ·obtain⟨v,⟨st,l,gs,S,rfl,⟨⟨ds,hs⟩,hl,hall⟩,hz,rfl⟩,k⟩:=h;refine⟨_,(aK (aN (kJ (bW (LC rfl) (by rfl) T.GZ boot_sum (aB (mQ (g:=dB 1) (tt:=yK) (te:=(jH _ _ _ (dD _ eU))) rfl vP.nd (iI (aI (pv 0) rfl)) (gB (own:=[("good",1)]) rfl) (fun _ _ _ _ _=>(pgn (i:=1) vP.nd)) (fun _ _ _ _ _=>mL) (fun _ _ _ _ _=>(pcl (KA T) hr T.RF T.vE (SD T) (aB (pv 1) aG)))) aG))))),?_⟩;refine dO (LG (ns:=S.goods.map CS.sN) fun Q q=>?_) (k H aX.rfl');refine iB (rs:=S.goods.map fun x=>(true,V.int (CS.sN x))) (aJ (aA rfl) hs T.gF T.eA rfl) (SqL.of hl) ?_ ?_ ?_ ?_
  ·rw[List.length_map,hall.1];exact Nat.le_trans hz.1 (by decide)
  ·rw[List.length_map,List.length_map,hall.1]
  ·intro i x r hx hr H' sm;obtain⟨p,hp,rfl⟩:=LU hx;obtain⟨y,hy,hG⟩:=hall.at' hp;rw[List.getElem?_map,hy] at hr;cases hr;exact⟨fun Q q=>q,fun _=>bI (aD (aA rfl) aL) ⟨p.1,p.2,y,rfl,hG.same sm,hz.2 y (List.mem_of_getElem? hy),rfl⟩⟩
  ·intro D H' hD sm e;refine q D H' hD sm ?_;rw[e,mC,List.map_map];rfl
theorem FQ(T:Txt K mg n):bK P w K mg aT CX0 1 n.wO n.vI ["stores"] (spP (jr n fun S=>.int (CS.oT S))):=by
 refine bK.pure (T.rF.ok tT (fun vs H Q E h=>?_) (fun cdv A bF s H vs Q E hr h=>?_))
 ·obtain⟨v,⟨a,b,c,d,rfl,_⟩,_⟩:=h;rfl
 ·obtain⟨v,⟨st,l,gs,S,rfl,⟨⟨ds,hs⟩,hl,hall⟩,hz,rfl⟩,k⟩:=h;refine⟨_,(aK (aN (kJ (bW (LC rfl) (by rfl) T.GZ boot_sum (aB (mQ (g:=dB 1) (tt:=yK) (te:=(lS K _ _)) rfl tT.nd (iI (aI (pv 0) rfl)) (gB (own:=[("good",1)]) rfl) (fun _ _ _ _ _=>(pgn (i:=1) tT.nd)) (fun _ _ _ _ _=>mL) (fun _ _ _ _ _=>(aI (pv 1) rfl))) aG))))),?_⟩;refine dO (LG (ns:=S.goods.map CS.Good.loaded) fun Q q=>?_) (k H aX.rfl');refine iB (rs:=S.goods.map fun x=>(true,V.int x.loaded)) (aJ (aA rfl) hs T.gF T.eA rfl) (SqL.of hl) ?_ ?_ ?_ ?_
  ·rw[List.length_map,hall.1];exact Nat.le_trans hz.1 (by decide)
  ·rw[List.length_map,List.length_map,hall.1]
  ·intro i x r hx hr H' sm;obtain⟨p,hp,rfl⟩:=LU hx;obtain⟨y,hy,⟨dy,hy2⟩,_⟩:=hall.at' hp;rw[List.getElem?_map,hy] at hr;cases hr;exact⟨fun Q q=>q,fun _=>aJ (aA rfl) (sm _ _ hy2) T.dE T.iT rfl⟩
  ·intro D H' hD sm e;refine q D H' hD sm ?_;rw[e,mC,List.map_map];rfl
def Cf(n:bL):List V→Hp→V→Prop:=fun vs H v=>∃g l G d,vs=[.ref g,.int d]∧fL n H g l G∧G.lots.length≤1000∧v=.bl (CS.lQ G d)
theorem F9(T:Txt K mg n):bK P w K mg aT CX0 1 n.XE n.VQ ["good","good_to"] (spP (Cf n)):=by
 refine bK.pure (T.GX.ok NE (fun vs H Q E h=>?_) (fun cdv A bF s H vs Q E hr h=>?_))
 ·obtain⟨v,⟨a,b,c,d,rfl,_⟩,_⟩:=h;rfl
 ·obtain⟨v,⟨g,l,G,d,rfl,⟨⟨dg,hg⟩,as,hl,hall⟩,hz,rfl⟩,k⟩:=h;refine⟨_,(aK (aN (kJ (bW (WH rfl) (by rfl) T.PJ boot_any (aB (mQ (g:=dB 2) (tt:=yK) (te:=(tOp _ (lS K _ _) _)) rfl NE.nd (iI (aI (pv 0) rfl)) (gB (own:=[("lot",2)]) rfl) (fun _ _ _ _ _=>(pgn (i:=2) NE.nd)) (fun _ _ _ _ _=>mL) (fun _ _ _ _ _=>(gM cY (aI (pv 2) rfl) (pv 1) (bD _)))) aG))))),?_⟩;refine dO (VG (bs:=G.lots.map fun(x:CS.Lot)=>decide (x.gU=d)) fun Q q=>?_) (k H aX.rfl');refine iB (rs:=G.lots.map fun(x:CS.Lot)=>(true,V.bl (decide (x.gU=d)))) (aJ (aA rfl) hg T.dE T.fA rfl) (SqL.of hl) ?_ ?_ ?_ ?_
  ·rw[List.length_map,hall.1];exact Nat.le_trans hz (by decide)
  ·rw[List.length_map,List.length_map,hall.1]
  ·intro i x r hx hr H' sm;obtain⟨a,ha,rfl⟩:=jD hx;obtain⟨y,hy,dy,hy2⟩:=hall.at' ha;rw[List.getElem?_map,hy] at hr;cases hr;exact⟨fun Q q=>q,fun _=>cP (aJ (aA rfl) (sm _ _ hy2) T.pW T.jT rfl) (aA rfl)⟩
  ·intro D H' hD sm e;refine q D H' hD sm ?_;rw[e,mC,List.map_map];rfl
def ju(n:bL):Sp:=fun vs H Q _=>∃g l G d u,vs=[.ref g,.int d,.int u]∧fL n H g l G∧G.lots.length≤1000∧∀H',fL n H' g l (CS.jL G d u)→Chg [g,l] H H'→Q .non H'
theorem bv(T:Txt K mg n):bK P w K mg aT CX0 3 n.IY n.KS ["good","good_to","units"] (ju n):=by
 refine T.KK.ok wG (fun vs H Q E h=>?_) (fun cdv A bF s H vs Q E hr h=>?_)
 ·obtain⟨g,l,G,d,u,rfl,_⟩:=h;rfl
 ·obtain⟨g,l,G,d,u,rfl,hG,hz,k⟩:=h;obtain⟨⟨dg,hg⟩,as,hl,hall⟩:=id hG;have ngl:g≠l:=fV hg hl (by intro z;cases z);refine⟨_,(aE (fT (pv 0) (pv 2) mB)
   (aE (pst (i:=3) wG.nd (pv 2))
   (aE (bS (dW (pcl (F9 T) hr T.W0 T.GX (R9 T) (aB (pv 0) (aB (pv 1) aG)))) (aE (pst (i:=4) wG.nd (iy PySem.F.plainAttrs_list PySem.F.slot_list_pop PySem.F.type_list_pop jh (aI (pv 0) rfl)))
   (aK (K8 (i:=3) wG.nd rfl (by first |exact Or.inl rfl |exact Or.inr rfl) (aI (pv 4) rfl) bh))) bG)
   (aK (eQ (nX PySem.F.plainAttrs_list PySem.F.slot_list_append PySem.F.type_list_append iQ (aI (pv 0) rfl) (aB (hJ T.Bh (f6 T) (hr.cF (by decide)) rfl T.m_Lot (C6 T) .nil gK (aB (pv 1) (aB (pv 3) aG))) aG))))))),?_⟩
  refine iN (aA rfl) hg T.dE T.iT rfl (aA rfl) (by show 7 < 1000;decide) ?_;have c1:Chg [g,l] H (upd H g (.ins n.eW dg (cC "loaded" (.int (G.loaded+u)) (rE G l)))):=Chg.upd (by simp) hg rfl;have hl1:=aZ (o':=.ins n.eW dg (cC "loaded" (.int (G.loaded+u)) (rE G l))) (Ne.symm ngl) hl
  have hG1:fL n (upd H g (.ins n.eW dg (cC "loaded" (.int (G.loaded+u)) (rE G l)))) g l { G with loaded:=G.loaded+u }:=
   ⟨⟨dg,by rw[aH];rfl⟩,as,hl1,hall.cF fun a x r=>r.chg c1 (.inr (yP x))⟩
  have hhl:CS.lQ { G with loaded:=G.loaded+u } d=CS.lQ G d:=rfl
  generalize hH1:upd H g (.ins n.eW dg (cC "loaded" (.int (G.loaded+u)) (rE G l)))=H1 at c1 hl1 hG1;obtain⟨⟨dg1,hg1⟩,_⟩:=id hG1;refine cI (aA rfl) ?_
  have last:∀(H2:Hp) (bs:List Addr) (ys:List CS.Lot) (z:Int) (v5:Option V),gH H2 n.eW g (rE { G with loaded:=G.loaded+u } l)→H2 l=some (.lst (bs.map V.ref))→dJ (fun a x=>gH H2 n.oX a (lotF x)) bs ys→ys.length≤1000→Chg [g,l] H H2→
    CS.jL G d u={ G with loaded:=G.loaded+u,lots:=ys++[⟨d,z⟩] }→
    BZ (tBM K "list" CK (lS K (fZ 0) "lots") (dD (GV n.oX (spI n.oX 2 K0) [] E0 (dD (fZ 1) (dD (fZ 3) eU))) eU)) { nx:=fun _ H'=>Q .non H',rt:=Q } [some (.ref g),some (.int d),some (.int u),some (.int z),v5] H2:=by
   intro H2 bs ys z v5 hg2 hl2 hall2 hz2 c2 hres;obtain⟨dg2,hg2⟩:=hg2;refine sC (vs:=[.int d,.int z]) (aJ (aA rfl) hg2 T.dE T.fA rfl) hl2 (aD (aA rfl) (aD (aA rfl) aL)) rfl (by rw[List.length_map,hall2.1];exact Nat.lt_of_le_of_lt hz2 (by decide)) fun y dy ny ndy hne=>?_;have s1:aX H2 (mkI H2 y dy n.oX (K0 [.int d,.int z])):=aX.mkI ny ndy;have nyl:y≠l:=fun q=>by rw[q,hl2] at ny;cases ny
   have c3:Chg [g,l] H2 (upd (mkI H2 y dy n.oX (K0 [.int d,.int z])) l (.lst (bs.map V.ref++[.ref y]))):=(Chg.same s1 _).trans (Chg.upd (by simp) (s1 _ _ hl2) rfl);refine k _ ?_ (c2.trans c3);rw[hres];refine⟨⟨dg2,aZ ngl (s1 _ _ hg2)⟩,bs++[y],?_,?_⟩
   ·rw[aH,List.map_append];rfl
   ·exact(hall2.cF fun a x r=>r.chg c3 (.inr (yP x))).tU ⟨dy,aZ nyl aH⟩
  refine cD (dX (bI (aD (aA rfl) (aD (aA rfl) aL)) ⟨g,l,_,d,rfl,hG1,hz,rfl⟩)) (fun e=>?_) (fun e=>?_)
  ·
   rw[hhl] at e;have hne:G.lots≠[]:=by
    intro q;unfold CS.lQ at e;rw[q] at e;cases e
   obtain⟨ys,y,hys⟩:∃ys y,G.lots=ys++[y]:=⟨G.lots.dropLast,G.lots.getLast hne,(List.dropLast_concat_getLast hne).symm⟩;obtain⟨bs,b,hbs⟩:∃bs b,as=bs++[b]:=by
    have :as≠[]:=by
     intro q;have:=hall.1;rw[q,hys] at this;simp at this
    exact⟨as.dropLast,as.getLast this,(List.dropLast_concat_getLast this).symm⟩
   have hlen:bs.length=ys.length:=by
    have:=hall.1;rw[hbs,hys] at this;simpa using this
   obtain⟨db,hb⟩:gH H1 n.oX b (lotF y):=by
    refine gH.chg (hall.2 bs.length b y ?_ ?_) c1 (.inr (yP y))
    ·rw[hbs];simp
    ·rw[hys,hlen];simp
   rw[hbs,List.map_append] at hl1;dsimp only;refine s_pop (aJ (aA rfl) hg1 T.dE T.fA rfl) (show H1 l=some (.lst (bs.map V.ref++[.ref b])) from hl1) ?_
   ·have c2:Chg [g,l] H1 (upd H1 l (.lst (bs.map V.ref))):=Chg.upd (by simp) hl1 rfl;have nbl:b≠l:=fV hb hl1 (by intro z;cases z);refine bt rfl (aJ (aA rfl) (aZ nbl hb) T.pW T.jA rfl) ?_;refine last _ bs ys (u+y.units) _ ⟨dg1,aZ ngl hg1⟩ aH ?_ ?_ (c1.trans c2) ?_
    ·refine⟨hlen,fun i a x e1 e2=>?_⟩;refine gH.chg (hall.2 i a x ?_ ?_) (c1.trans c2) (.inr (yP x))
     ·rw[hbs,List.getElem?_append_left (List.getElem?_eq_some_iff.mp e1).1];exact e1
     ·rw[hys,List.getElem?_append_left (List.getElem?_eq_some_iff.mp e2).1];exact e2
    ·have:=hz;rw[hys] at this;simp at this;omega
    ·unfold CS.jL;rw[if_pos e,hys,List.dropLast_concat,List.getLastD_concat]
  ·rw[hhl] at e;refine last H1 as G.lots u _ ⟨dg1,hg1⟩ hl1 (hall.cF fun a x r=>r.chg c1 (.inr (yP x))) hz c1 ?_;unfold CS.jL;rw[if_neg (by rw[e];decide)]
theorem Dm{σ:L2.St}{H:Hp}{D:lB}{i:Nat}(q:∀l,H l=none→D.nx (σ.set i (some (.ref l))) (upd H l (.lst []))):IM (EU eU) (dB i) D σ H:=⟨Nat.zero_le _,fun l hn=>q l hn⟩
theorem y8{K:PySem.W.Frag}{σ:L2.St}{H:Hp}{D:lB}{ta tb:TE}{f:Str}(h:tb σ H fun y H1=>ta σ H1 fun x H2=>∃a C dx fs,x=.ref a∧H2 a=some (.ins C dx fs)∧Cls K C∧bY K C f∧fs.length < 1000∧D.nx σ (upd H2 a (.ins C dx (cC f y fs)))):MS K ta tb f D σ H:=h
theorem YI(x:CS.Lot)(l:List CS.Lot)(i:Int):CS.jO i (x::l)=(if CS.kY i x.units < x.units then⟨x.gU,x.units - CS.kY i x.units⟩::(CS.jO (i - CS.kY i x.units) l).1 else(CS.jO (i - CS.kY i x.units) l).1,(CS.jO (i - CS.kY i x.units) l).2):=rfl
def sp_eat(n:bL):Sp:=fun vs H Q _=>∃g l G i,vs=[.ref g,.int i]∧fL n H g l G∧G.lots.length≤1000∧∀H' l',H l'=none→fL n H' g l' (CS.eat G i)→Chg [g] H H'→Q .non H'
theorem Ay(T:Txt K mg n):bK P w K mg aT CX0 3 n.tu n.wy ["good","wanted"] (sp_eat n):=by
 refine T.ax.ok LQ (fun vs H Q E h=>?_) (fun cdv A bF s H vs Q E hr h=>?_)
 ·obtain⟨g,l,G,i,rfl,_⟩:=h;rfl
 ·obtain⟨g,l,G,i,rfl,⟨⟨dg,hg⟩,as,hl,hall⟩,hz,k⟩:=h;refine⟨_,(aE (pst (i:=2) LQ.nd (pv 1))
   (aE (pst (i:=3) LQ.nd (bJ aG))
   (aE (sZ PassesOwn.never rfl (iI (aI (pv 0) rfl)) (pgn (i:=4) LQ.nd) (aE (pst (i:=5) LQ.nd (bW (GR rfl) (by rfl) T.QC boot_min (aB (pv 2) (aB (aI (pv 4) rfl) aG))))
   (aE (K8 (i:=2) LQ.nd rfl (by first |exact Or.inl rfl |exact Or.inr rfl) (pv 5) ip_sub)
   (aK (bS (bE tL (pv 5) (aI (pv 4) rfl) (bD _)) (aK (eQ (nX PySem.F.plainAttrs_list PySem.F.slot_list_append PySem.F.type_list_append iQ (pv 3) (aB (hJ T.Bh (f6 T) (hr.cF (by decide)) rfl T.m_Lot (C6 T) .nil gK (aB (aI (pv 4) rfl) (aB (dG mX (aI (pv 4) rfl) (pv 5)) aG))) aG)))) bG)))))
   (aE (bP (pv 0) (pv 3) rfl)
   (aE (fT (pv 0) (dG mX (pv 1) (pv 2)) mB)
   (aK (fT (pv 0) (pv 2) mB))))))),?_⟩
  refine cI (aA rfl) ?_;refine Dm fun q nq=>?_;have hgq:g≠q:=bN hg nq;have s0:aX H (upd H q (.lst [])):=aX.upd nq;dsimp only;refine BY (xs:=as.map V.ref) (aJ (aA rfl) (s0 _ _ hg) T.dE T.fA rfl) (SqL.of (s0 _ _ hl)) (fun j σ H'=>aX H H'∧∃v4 v5 left bs ys,σ=[some (.ref g),some (.int i),some (.int left),some (.ref q),v4,v5]∧H' q=some (.lst (bs.map V.ref))∧dJ (fun a x=>gH H' n.oX a (lotF x)) bs ys∧ys.length≤j∧
   CS.jO i G.lots=(ys++(CS.jO left (G.lots.drop j)).1,(CS.jO left (G.lots.drop j)).2)) ?_ ?_ ?_ ?_
  ·exact⟨s0,_,_,i,[],[],rfl,aH,dJ.nil,Nat.zero_le _,rfl⟩
  ·intro j σ H' _ ⟨sm,_⟩;exact SqL.of (sm _ _ hl)
  ·rintro j x σ H' hx ⟨sm,v4,v5,left,bs,ys,rfl,hq,hbs,hyl,inv⟩;obtain⟨a,ha,rfl⟩:=jD hx;obtain⟨y,hy,dy,hy2⟩:=hall.at' ha;have hy3:=sm _ _ hy2;have hjl:j < G.lots.length:=(List.getElem?_eq_some_iff.mp hy).1;have hdrop:G.lots.drop j=y::G.lots.drop (j+1):=by
    obtain⟨h1,e1⟩:=List.getElem?_eq_some_iff.mp hy;rw[List.drop_eq_getElem_cons h1,e1]
   rw[hdrop,YI] at inv;dsimp only;refine cI (v:=.int (CS.kY left y.units)) (E9 (aA rfl) (aJ (aA rfl) hy3 T.pW T.jA rfl)) ?_;refine bt rfl (aA rfl) ?_;dsimp only;refine cD (bB (bU (aA rfl) (aJ (aA rfl) hy3 T.pW T.jA rfl))) (fun e=>?_) (fun e=>?_)
   ·have e':CS.kY left y.units < y.units:=of_decide_eq_true e;rw[if_pos e'] at inv;refine sC (vs:=[.int y.gU,.int (y.units - CS.kY left y.units)]) (aA rfl) hq (aD (aJ (aA rfl) hy3 T.pW T.jT rfl) (aD (bU (aJ (aA rfl) hy3 T.pW T.jA rfl) (aA rfl)) aL)) rfl ?_ fun z dz nz ndz hne=>?_
    ·rw[List.length_map,hbs.1];exact Nat.lt_of_le_of_lt (Nat.le_trans hyl (Nat.le_trans (Nat.le_of_lt hjl) hz)) (by decide)
    ·have s1:aX H' (mkI H' z dz n.oX (K0 [.int y.gU,.int (y.units - CS.kY left y.units)])):=aX.mkI nz ndz;have nzq:z≠q:=fun w=>by rw[w,hq] at nz;cases nz
     refine⟨fun b o eb=>aZ (bN eb nq) (s1 _ _ (sm _ _ eb)),_,_,_,bs++[z],ys++[⟨y.gU,y.units - CS.kY left y.units⟩],rfl,?_,?_,?_,?_⟩
     ·rw[aH,List.map_append];rfl
     ·refine(hbs.cF fun a x ⟨dx,r⟩=>⟨dx,?_⟩).tU ⟨dz,aZ nzq aH⟩;exact aZ (fV r hq (by intro w;cases w)) (s1 _ _ r)
     ·rw[List.length_append];show ys.length+1≤j+1;omega
     ·rw[inv,List.append_assoc];rfl
   ·have e':¬CS.kY left y.units < y.units:=of_decide_eq_false e;rw[if_neg e'] at inv;exact⟨sm,_,_,_,bs,ys,rfl,hq,hbs,by omega,inv⟩
  ·rintro σ H' ⟨sm,v4,v5,left,bs,ys,rfl,hq,hbs,hyl,inv⟩;rw[List.length_map,hall.1,List.drop_length] at inv;have inv':CS.jO i G.lots=(ys,left):=by rw[inv];show(ys++[],left)=_;rw[List.append_nil]
   have hg1:=sm _ _ hg;dsimp only;refine cN (aA rfl) (aA rfl) hg1 T.dE T.fA (by show 7 < 1000;decide) ?_;refine iN (aA rfl) aH T.dE T.kX rfl (bU (aA rfl) (aA rfl)) (by show 7 < 1000;decide) ?_;rw[cO];refine iN (aA rfl) aH T.dE T.iA rfl (aA rfl) (by show 7 < 1000;decide) ?_;rw[cO];have c:Chg [g] H (upd H' g (.ins n.eW dg (rE (CS.eat G i) q))):=(Chg.same sm _).trans (Chg.upd (by simp) hg1 rfl)
   have ee:CS.eat G i={ G with lots:=ys,eaten:=G.eaten+(i - left),lacked:=G.lacked+left }:=by
    unfold CS.eat;rw[inv']
   have hfin:(upd H' g (.ins n.eW dg (cC "lacked" (.int (G.lacked+left)) (cC "eaten" (.int (G.eaten+(i - left))) (cC "lots" (.ref q) (rE G l))))))=upd H' g (.ins n.eW dg (rE (CS.eat G i) q)):=by rw[ee];rfl
   show Q .non (upd H' g (.ins n.eW dg (cC "lacked" (.int (G.lacked+left)) (cC "eaten" (.int (G.eaten+(i - left))) (cC "lots" (.ref q) (rE G l))))));rw[hfin];refine k _ q nq ⟨⟨dg,aH⟩,bs,aZ (Ne.symm hgq) hq,?_⟩ c;rw[ee];refine hbs.cF fun a x ⟨dx,r⟩=>⟨dx,aZ (fV r hg1 ?_) r⟩;intro w;have:=congrArg xn w;cases this
def Ez(n:bL):Sp:=fun vs H Q _=>∃g l G i,vs=[.ref g,.int i]∧fL n H g l G∧G.lots.length≤1000∧∀H' l',H l'=none→fL n H' g l' (CS.pK G i)→Chg [g] H H'→Q .non H'
theorem m7{α:Type}{R:Addr→α→Prop}(p:α→Bool):∀{as:List Addr} {xs:List α},dJ R as xs→∃bs,((as.zip xs).filter fun q=>p q.2).map (·.1)=bs∧dJ R bs (xs.filter p)
 |[],[],_=>⟨[],rfl,dJ.nil⟩
 |[],x::xs,h=>by have:=h.1;simp at this
 |a::as,[],h=>by have:=h.1;simp at this
 |a::as,x::xs,h=>by
  have ht:dJ R as xs:=⟨by have:=h.1;simpa using this,fun i b y e1 e2=>h.2 (i+1) b y (by simpa using e1) (by simpa using e2)⟩;obtain⟨bs,e,r⟩:=m7 p ht;have h0:R a x:=h.2 0 a x rfl rfl;simp only[List.zip_cons_cons,List.filter_cons]
  cases hp:p x with
  |true=>
   refine⟨a::bs,by simp only[if_true,List.map_cons];rw[e],?_⟩;simp only[if_true];refine⟨by simp[r.1],fun i b y e1 e2=>?_⟩
   cases i with
   |zero=>cases e1;cases e2;exact h0
   |succ i=>exact r.2 i b y (by simpa using e1) (by simpa using e2)
  |false=>
   refine⟨bs,by simp only[Bool.false_eq_true,if_false];exact e,?_⟩;simp only[Bool.false_eq_true,if_false];exact r
theorem Ex{α:Type}(p:α→Bool):∀(as:List Addr) (xs:List α),fD ((as.zip xs).map fun q=>(p q.2,V.ref q.1))=(((as.zip xs).filter fun q=>p q.2).map (·.1)).map V.ref:=fun as xs=>by
 rw[oV (fun q:Addr×α=>p q.2) (fun q=>V.ref q.1),List.map_map];rfl
theorem ia(T:Txt K mg n):bK P w K mg aT CX0 1 n.P5 n.M8 ["good","day"] (Ez n):=by
 refine T.YZ.ok EN (fun vs H Q E h=>?_) (fun cdv A bF s H vs Q E hr h=>?_)
 ·obtain⟨g,l,G,i,rfl,_⟩:=h;rfl
 ·obtain⟨g,l,G,i,rfl,⟨⟨dg,hg⟩,as,hl,hall⟩,hz,k⟩:=h;refine⟨_,(aE (fT (pv 0) (kJ (bW (LC rfl) (by rfl) T.GZ boot_sum (aB (mQ (g:=dB 2) (tt:=(qW (tOp _ (lS K _ _) _))) (te:=(lS K _ _)) rfl EN.nd (iI (aI (pv 0) rfl)) (gB (own:=[("lot",2)]) rfl) (fun _ _ _ _ _=>(pgn (i:=2) EN.nd)) (fun _ _ _ _ _=>(uR (bE tL (aI (pv 2) rfl) (pv 1) (bD _)))) (fun _ _ _ _ _=>(aI (pv 2) rfl))) aG))) mB)
   (aK (bP (pv 0) (mQ (g:=dB 2) (tt:=(qW (tOp _ (lS K _ _) _))) (te:=_) rfl EN.nd (iI (aI (pv 0) rfl)) (gB (own:=[("lot",2)]) rfl) (fun _ _ _ _ _=>(pgn (i:=2) EN.nd)) (fun _ _ _ _ _=>(uR (bE rD (aI (pv 2) rfl) (pv 1) (bD _)))) (fun _ _ _ _ _=>(pv 2))) rfl))),?_⟩
  refine iN (aA rfl) hg T.dE T.jP rfl (LG (ns:=(G.lots.filter fun x=>decide (x.gU < i)).map CS.Lot.units) fun Q q=>?_) (by show 7 < 1000;decide) ?_
  ·refine iB (rs:=G.lots.map fun x=>(decide (x.gU < i),V.int x.units)) (aJ (aA rfl) hg T.dE T.fA rfl) (SqL.of hl) ?_ ?_ ?_ ?_
   ·rw[List.length_map,hall.1];exact Nat.le_trans hz (by decide)
   ·rw[List.length_map,List.length_map,hall.1]
   ·intro j x r hx hr H' sm;obtain⟨a,ha,rfl⟩:=jD hx;obtain⟨y,hy,dy,hy2⟩:=hall.at' ha;rw[List.getElem?_map,hy] at hr;cases hr;exact⟨bB (bU (aJ (aA rfl) (sm _ _ hy2) T.pW T.jT rfl) (aA rfl)),fun _=>aJ (aA rfl) (sm _ _ hy2) T.pW T.jA rfl⟩
   ·intro D H' hD sm e;refine q D H' hD sm ?_;rw[e,oV (fun x:CS.Lot=>decide (x.gU < i)) (fun x=>V.int x.units),List.map_map];rfl
  ·have c1:Chg [g] H (upd H g (.ins n.eW dg (cC "spoilt" (.int (G.spoilt+((G.lots.filter fun x=>decide (x.gU < i)).map CS.Lot.units).sum)) (rE G l)))):=Chg.upd (by simp) hg rfl;have ngl:g≠l:=fV hg hl (by intro z;cases z);have hl1:=aZ (o':=.ins n.eW dg (cC "spoilt" (.int (G.spoilt+((G.lots.filter fun x=>decide (x.gU < i)).map CS.Lot.units).sum)) (rE G l))) (Ne.symm ngl) hl;obtain⟨bs,hbs,hall2⟩:=m7 (fun x:CS.Lot=>decide (x.gU≥i)) hall;have hzl:as.length=G.lots.length:=hall.1;dsimp only;refine y8 ?_;refine iB (rs:=(as.zip G.lots).map fun q=>(decide (q.2.gU≥i),V.ref q.1)) (aJ (aA rfl) aH T.dE T.fA rfl) (SqL.of hl1) ?_ ?_ ?_ ?_
   ·rw[List.length_map,hzl];exact Nat.le_trans hz (by decide)
   ·rw[List.length_map,List.length_map,List.length_zip,hzl];omega
   ·intro j x r hx hr H' sm;obtain⟨a,ha,rfl⟩:=jD hx;obtain⟨y,hy,dy,hy2⟩:=hall.at' ha;have hzip:(as.zip G.lots)[j]? =some (a,y):=by rw[List.getElem?_zip_eq_some];exact⟨ha,hy⟩
    rw[List.getElem?_map,hzip] at hr;cases hr;have hy3:=sm _ _ (c1.keep _ _ hy2 (.inr rfl));exact⟨bB (bU (aJ (aA rfl) hy3 T.pW T.jT rfl) (aA rfl)),fun _=>aA rfl⟩
   ·intro D H' hD sm e;rw[Ex (fun x:CS.Lot=>decide (x.gU≥i)),hbs] at e;have hDn:H D=none:=by
     cases q:H D with
     |none=>rfl
     |some o=>
      by_cases hDg:D=g
      ·rw[hDg,aH] at hD;cases hD
      ·rw[bA hDg,q] at hD;cases hD
    have hg2:=sm _ _ aH;refine aA rfl _ ⟨g,n.eW,dg,_,rfl,hg2,T.dE,T.fA,(by show 7 < 1000;decide),?_⟩;have c2:Chg [g] H (upd H' g (.ins n.eW dg (rE (CS.pK G i) D))):=c1.trans ((Chg.same sm _).trans (Chg.upd (by simp) hg2 rfl));have nDg:D≠g:=fun q=>by rw[q,aH] at hD;cases hD
    refine k _ D hDn ⟨⟨dg,aH⟩,bs,aZ nDg e,?_⟩ c2;exact hall2.cF fun a x r=>r.chg c2 (.inr (yP x))
def WU(n:bL):Sp:=fun vs H Q _=>∃p dx a b,vs=[.ref p,.int a,.int b]∧H p=some (.ins n.eW dx [])∧∀H' l,H l=none→fL n H' p l ⟨a,b,[],0,0,0,0⟩→(∀b o,H b=some o→b≠p→H' b=some o)→Q .non H'
theorem VU(T:Txt K mg n):bK P w K mg aT CX0 1 n.HZ n.HM ["self","per","life"] (WU n):=by
 refine T.j3.ok cf (fun vs H Q E h=>?_) (fun cdv A bF s H vs Q E hr h=>?_)
 ·obtain⟨p,dx,a,b,rfl,_⟩:=h;rfl
 ·obtain⟨p,dx,a,b,rfl,hp,k⟩:=h;refine⟨_,(aE (bP (pv 0) (pv 1) rfl)
   (aE (bP (pv 0) (pv 2) rfl)
   (aE (bP (pv 0) (bJ aG) rfl)
   (aE (bP (pv 0) aQ rfl)
   (aE (bP (pv 0) aQ rfl)
   (aE (bP (pv 0) aQ rfl)
   (aK (bP (pv 0) aQ rfl)))))))),?_⟩
  refine cN (aA rfl) (aA rfl) hp T.dE T.qK (by show 0 < 1000;decide) ?_;refine cN (aA rfl) (aA rfl) aH T.dE T.rK (by show 1 < 1000;decide) ?_;rw[cO];refine jR (fun _=>aA rfl) aH T.dE T.fA (by show 2 < 1000;decide) fun l hn=>?_;have nl:l≠p:=fun q=>by rw[q,aH] at hn;cases hn
  rw[bA nl] at hn;refine cN aO (aA rfl) aH T.dE T.iT (by show 3 < 1000;decide) ?_;refine cN aO (aA rfl) aH T.dE T.kX (by show 4 < 1000;decide) ?_;refine cN aO (aA rfl) aH T.dE T.jP (by show 5 < 1000;decide) ?_;refine cN aO (aA rfl) aH T.dE T.iA (by show 6 < 1000;decide) ?_;rw[cO,cO,cO,cO];refine k _ l hn ⟨⟨dx,?_⟩,[],?_,dJ.nil⟩ fun b o e hb=>?_
  ·rw[aH];rfl
  ·rw[bA nl,aH];rfl
  ·rw[bA hb,bA (bN e hn),bA hb];exact e
def VO(n:bL):Sp:=fun vs H Q _=>∃g l G,vs=[.ref g]∧fL n H g l G∧∀H' g' l',H g'=none→H l'=none→fL n H' g' l' G→aX H H'→Q (.ref g') H'
theorem XW(T:Txt K mg n):bK P w K mg aT CX0 3 n.JO n.KM ["self"] (VO n):=by
 refine T.j1.ok VP (fun vs H Q E h=>?_) (fun cdv A bF s H vs Q E hr h=>?_)
 ·obtain⟨w,l,W,rfl,_⟩:=h;rfl
 ·obtain⟨g,l,G,rfl,hG,k⟩:=h;obtain⟨⟨dg,hg⟩,as,hl,hall⟩:=id hG;refine⟨_,(aE (pst (i:=1) VP.nd (hJ T.rl (VU T) (hr.cF (by decide)) rfl T.Cp (l7 T) .nil gK (aB (aI (pv 0) rfl) (aB (aI (pv 0) rfl) aG))))
   (aE (bP (pv 1) (mS lY (by rfl) T.tF PyProof.Rows.boot_list (aB (aI (pv 0) rfl) aG)) rfl)
   (aE (bP (pv 1) (aI (pv 0) rfl) rfl)
   (aE (bP (pv 1) (aI (pv 0) rfl) rfl)
   (aE (bP (pv 1) (aI (pv 0) rfl) rfl)
   (aE (bP (pv 1) (aI (pv 0) rfl) rfl)
   (aK (aN (pv 1))))))))),?_⟩
  refine gR ((aD (aJ (aA rfl) hg T.dE T.qK rfl) (aD (aJ (aA rfl) hg T.dE T.rK rfl) aL)) _ fun x dx nx ndx hne=>⟨x,dx,G.per,G.life,rfl,aH,fun H1 l1 hl1 hW1 keep=>⟨rfl,?_⟩⟩);have s1:aX H H1:=aX.made nx ndx keep;obtain⟨⟨dx1,hx1⟩,_⟩:=hW1;have hg1:=s1 _ _ hg;have ngx:g≠x:=bN hg nx;have nlx:l≠x:=bN hl nx;refine rM (aJ (aA rfl) hg1 T.dE T.fA rfl) (SqL.of (s1 _ _ hl)) (fun _=>aA rfl) hx1 T.dE T.fA (by show 7 < 1000;decide) fun l' hn=>?_;have nlx':l'≠x:=fun q=>by rw[q,hx1] at hn;cases hn
  have ngl':g≠l':=bN hg1 hn;refine cN (aJ (aA rfl) (aZ ngx (aZ ngl' hg1)) T.dE T.iT rfl) (aA rfl) aH T.dE T.iT (by show 7 < 1000;decide) ?_;rw[cO];refine cN (aJ (aA rfl) (aZ ngx (aZ ngl' hg1)) T.dE T.kX rfl) (aA rfl) aH T.dE T.kX (by show 7 < 1000;decide) ?_;rw[cO];refine cN (aJ (aA rfl) (aZ ngx (aZ ngl' hg1)) T.dE T.jP rfl) (aA rfl) aH T.dE T.jP (by show 7 < 1000;decide) ?_;rw[cO];refine cN (aJ (aA rfl) (aZ ngx (aZ ngl' hg1)) T.dE T.iA rfl) (aA rfl) aH T.dE T.iA (by show 7 < 1000;decide) ?_;rw[cO];refine dO (aA rfl) ?_;have s2:∀fs,aX H (upd (upd H1 l' (.lst (as.map V.ref))) x (.ins n.eW dx1 fs)):=fun fs b o e=>aZ (bN e nx) (aZ (bN (s1 _ _ e) hn) (s1 _ _ e));refine k _ x l' nx (s1.free hn) ⟨⟨dx1,?_⟩,as,?_,hall.cF fun a y r=>r.same (s2 _)⟩ (s2 _)
  ·rw[aH];rfl
  ·rw[bA nlx',aH]
def M3(n:bL):Sp:=fun vs H Q _=>∃p dx a,vs=[.ref p,.int a]∧H p=some (.ins n.nH dx [])∧∀H' l,H l=none→gI n H' p l [] ⟨a,[]⟩→(∀b o,H b=some o→b≠p→H' b=some o)→Q .non H'
theorem LX(T:Txt K mg n):bK P w K mg aT CX0 1 n.BI n.BL ["self","room"] (M3 n):=by
 refine T.TZ.ok O4 (fun vs H Q E h=>?_) (fun cdv A bF s H vs Q E hr h=>?_)
 ·obtain⟨p,dx,a,rfl,_⟩:=h;rfl
 ·obtain⟨p,dx,a,rfl,hp,k⟩:=h;refine⟨_,(aE (bP (pv 0) (pv 1) rfl)
   (aK (bP (pv 0) (bJ aG) rfl))),?_⟩
  refine cN (aA rfl) (aA rfl) hp T.gF T.oP (by show 0 < 1000;decide) ?_;refine jR (fun _=>aA rfl) aH T.gF T.eA (by show 1 < 1000;decide) fun l hn=>?_;have nl:l≠p:=fun q=>by rw[q,aH] at hn;cases hn
  rw[bA nl] at hn;refine k _ l hn ⟨⟨dx,?_⟩,?_,dJ.nil⟩ fun b o e hb=>?_
  ·rw[aH];rfl
  ·rw[bA nl,aH];rfl
  ·rw[bA hb,bA (bN e hn),bA hb];exact e
end
def QJ(gs:List (Addr×Addr)):Prop:=(gs.map (·.1)).Nodup∧(gs.map (·.2)).Nodup
theorem wH{α:Type}{l:List α}{a:α}(h:l.Nodup)(n:a∉l):(l++[a]).Nodup:=by
 rw[List.nodup_append];refine⟨h,by simp,fun x hx y hy=>?_⟩;rw[List.mem_singleton.mp hy];intro e;exact n (by rw[←e];exact hx)
theorem lc_raw{K:PySem.W.Frag}{σ:L2.St}{H:Hp}{tl te:TE}{tt:TT}{g:TG}{vs:List Nat}{a:Addr}{xs:List V}{Q:VK}(hl:EV tl σ H (.ref a))(hs:SqL K H a xs)
  (h:∀D,H D=none→∃W:Nat→Nat→Hp→Prop,(∃m,W 0 m (upd H D (.lst [])))∧∀i m H,W i m H→
   ((Itl K a).vL i H∧Q (.ref D) H)∨((Itl K a).go i H∧∃Nx:Hp→Prop,(∀H',Nx H'→∃m',m' < m∧W (i+1) m' H')∧∀x H',(Itl K a).yld i H x H'→g x (hE σ vs) H' fun σ2 H2=>hE σ2 vs=hE σ vs∧tt σ2 H2 fun b H3=>
    if b=true then te σ2 H3 fun y H4=>∃acc,H4 D=some (.lst acc)∧acc.length < sizeLine∧Nx (upd H4 D (.lst (acc++[y]))) else Nx H3)):tLc (am K tl) g tt te vs σ H Q:=
 hl _ ⟨a,rfl,⟨xs,hs⟩,h⟩
section
variable{P:Program}{w:World}{K:PySem.W.Frag}{mg:Str→Option Value}{aT:Heap}{n:bL}
def P9(n:bL):Sp:=fun vs H Q _=>∃s l gs S,vs=[.ref s]∧gI n H s l gs S∧S.goods.length≤1000∧∀H' s' l' gs',H s'=none→H l'=none→(∀p∈gs',H p.1=none∧H p.2=none∧p.2≠l')→QJ gs'→gI n H' s' l' gs' S→aX H H'→Q (.ref s') H'
theorem M5(T:Txt K mg n):bK P w K mg aT CX0 4 n.AR n.BB ["self"] (P9 n):=by
 refine T.SW.ok rZ (fun vs H Q E h=>?_) (fun cdv A bF s H vs Q E hr h=>?_)
 ·obtain⟨s,l,gs,S,rfl,_⟩:=h;rfl
 ·obtain⟨st,l,gs,S,rfl,⟨⟨ds,hs⟩,hl,hall⟩,hz,k⟩:=h;refine⟨_,(aE (pst (i:=1) rZ.nd (hJ T.T7 (LX T) (hr.cF (by decide)) rfl T.bp (TF T) .nil gK (aB (aI (pv 0) rfl) aG)))
   (aE (bP (pv 1) (mQ (g:=dB 2) (tt:=yK) (te:=(bd _ _ _ _ _ _ eU)) rfl rZ.nd (iI (aI (pv 0) rfl)) (gB (own:=[("good",2)]) rfl) (fun _ _ _ _ _=>(pgn (i:=2) rZ.nd)) (fun _ _ _ _ _=>mL) (fun _ _ _ _ _=>(pM (pv 2) T.dE T.VL (XW T) (hr.cF (by decide)) (i0 T) .nil gK))) rfl)
   (aK (aN (pv 1))))),?_⟩
  refine gR ((aD (aJ (aA rfl) hs T.gF T.oP rfl) aL) _ fun x dx nx ndx hne=>⟨x,dx,S.room,rfl,aH,fun H1 l1 hl1 hW1 keep=>⟨rfl,?_⟩⟩);have s1:aX H H1:=aX.made nx ndx keep;obtain⟨⟨dx1,hx1⟩,_⟩:=hW1;have hs1:=s1 _ _ hs;dsimp only;refine y8 ?_;refine lc_raw (xs:=gs.map fun p=>V.ref p.1) (aJ (aA rfl) hs1 T.gF T.eA rfl) (SqL.of (s1 _ _ hl)) fun D hD=>?_;have nDx:D≠x:=fun q=>by rw[q,hx1] at hD;cases hD
  refine qz (K:=K) (a:=l) (xs:=gs.map fun p=>V.ref p.1) (Qd:=fun H2=>fZ 1 [some (V.ref st),some (V.ref x),none] H2 fun x_1 H3=>∃a C dx fs,x_1=V.ref a∧H3 a=some (HO.ins C dx fs)∧Cls K C∧bY K C "goods"∧fs.length < 1000∧GF (fZ 1) { nx:=fun _ H'=>Q .non H',rt:=Q } [some (V.ref st),some (V.ref x),none] (upd H3 a (HO.ins C dx (cC "goods" (V.ref D) fs))))
   (fun j H'=>aX H1 H'∧∃gs',H' D=some (.lst (gs'.map fun p=>V.ref p.1))∧dJ (fun(p:Addr×Addr) G=>fL n H' p.1 p.2 G) gs' (S.goods.take j)∧(∀p∈gs',H1 p.1=none∧H1 p.2=none∧p.1≠D∧p.2≠D)∧QJ gs') ?_ ?_ ?_ ?_
  ·exact⟨aX.upd hD,[],aH,dJ.nil,fun p hp=>absurd hp (by simp),by constructor <;> simp⟩
  ·intro j H' _ ⟨sm,_⟩;exact SqL.of (sm _ _ (s1 _ _ hl))
  ·rintro j v H' hv ⟨sm,gs',hD',hall',hfr,hap⟩;obtain⟨p,hp,rfl⟩:=LU hv;obtain⟨y,hy,hG⟩:=hall.at' hp;have hG':fL n H' p.1 p.2 y:=hG.same (s1.trans sm);obtain⟨dp,hp'⟩:=hG'.obj;refine⟨rfl,?_⟩;show bd n.eW "twin" (VO n) [] E0 (fZ 2) eU _ H' _;refine aA rfl _ ⟨p.1,dp,_,rfl,hp',rfl,p.1,p.2,y,rfl,hG',fun H4 g' l' ng nl hG4 sm4=>?_⟩;have ngD:g'≠D:=fun q=>by rw[q,hD'] at ng;cases ng
   have nlD:l'≠D:=fun q=>by rw[q,hD'] at nl;cases nl
   have hD4:=sm4 _ _ hD';have c:Chg [D] H4 (upd H4 D (.lst (gs'.map (fun p=>V.ref p.1)++[.ref g']))):=Chg.upd (by simp) hD4 rfl;refine⟨_,hD4,?_,?_,gs'++[(g',l')],?_,?_,?_,?_⟩
   ·rw[List.length_map,hall'.1,List.length_take];exact Nat.lt_of_le_of_lt (Nat.min_le_right _ _) (Nat.lt_of_le_of_lt hz (by decide))
   ·intro b o eb;exact aZ (bN eb hD) (sm4 _ _ (sm _ _ eb))
   ·rw[aH,List.map_append];rfl
   ·rw[take_snoc' hy];refine dJ.tU ⟨hall'.1,fun i q G e1 e2=>?_⟩ (hG4.chg c (by simpa using ngD) (by simpa using nlD));have hq:=hfr q (List.mem_of_getElem? e1);exact((hall'.2 i q G e1 e2).same sm4).chg c (by simpa using hq.2.2.1) (by simpa using hq.2.2.2)
   ·intro q hq
    rcases List.mem_append.mp hq with q1 |q1
    ·exact hfr q q1
    ·rw[List.mem_singleton.mp q1];exact⟨sm.free ng,sm.free nl,ngD,nlD⟩
   ·refine⟨?_,?_⟩
    ·rw[List.map_append];refine wH hap.1 fun hm=>?_;obtain⟨q,hq,e⟩:=List.mem_map.mp hm;obtain⟨i,hi⟩:=List.getElem?_of_mem hq;obtain⟨G,_,⟨dq,hq2⟩,_⟩:=hall'.at' hi;have :q.1=g':=e;rw[this,ng] at hq2;cases hq2
    ·rw[List.map_append];refine wH hap.2 fun hm=>?_;obtain⟨q,hq,e⟩:=List.mem_map.mp hm;obtain⟨i,hi⟩:=List.getElem?_of_mem hq;obtain⟨G,_,_,bs,hq2,_⟩:=hall'.at' hi;have :q.2=l':=e;rw[this,nl] at hq2;cases hq2
  ·rintro H' ⟨sm,gs',hD',hall',hfr,hap⟩;rw[List.length_map,hall.1,List.take_length] at hall';have hx':=sm _ _ hx1;refine⟨_,rfl,x,n.nH,dx1,_,rfl,hx',T.gF,T.eA,(by show 2 < 1000;decide),?_⟩;refine dO (aA rfl) ?_;have c:Chg [x] H' (upd H' x (.ins n.nH dx1 (cC "goods" (.ref D) (ra ⟨S.room,[]⟩ l1)))):=Chg.upd (by simp) hx' rfl;refine k _ x D gs' nx (s1.free hD) (fun p hp=>⟨s1.free (hfr p hp).1,s1.free (hfr p hp).2.1,(hfr p hp).2.2.2⟩) hap ⟨⟨dx1,?_⟩,?_,⟨hall'.1,fun i q G e1 e2=>?_⟩⟩ fun b o e=>?_
   ·rw[aH];rfl
   ·exact aZ nDx hD'
   ·have hq:=hfr q (List.mem_of_getElem? e1);refine(hall'.2 i q G e1 e2).chg c ?_ ?_
    ·simp only[List.mem_singleton];intro z;rw[z,hx1] at hq;cases hq.1
    ·simp only[List.mem_singleton];intro z;rw[z,hx1] at hq;cases hq.2.1
   ·exact aZ (bN e nx) (sm _ _ (s1 _ _ e))
def C7(n:bL):Sp:=fun vs H Q _=>∃s l gs S a d,vs=[.ref s,.int a,.int d]∧gI n H s l gs S∧QJ gs∧sD S∧(-(2 ^ 64) < a∧a < 2 ^ 64)∧
 ∀H' gs',gs'.map (·.1)=gs.map (·.1)→(∀p∈gs',H p.2=none)→QJ gs'→gI n H' s l gs' (CS.GH S a d)→Chg (gs.map (·.1)) H H'→Q .non H'
theorem sY:∀(l:List CS.Lot) (i:Int),(CS.jO i l).1.length≤l.length
 |[],_=>Nat.le_refl _
 |x::l,i=>by
  rw[YI];have:=sY l (i - CS.kY i x.units)
  split
  ·simp only[List.length_cons];omega
  ·simp only[List.length_cons];omega
theorem xy(T:Txt K mg n):bK P w K mg aT CX0 4 n.YC n.WY ["stores","aboard","new_day"] (C7 n):=by
 refine T.VM.ok H0 (fun vs H Q E h=>?_) (fun cdv A bF s H vs Q E hr h=>?_)
 ·obtain⟨s,l,gs,S,a,d,rfl,_⟩:=h;rfl
 ·obtain⟨st,l,gs,S,a,d,rfl,⟨⟨ds,hs⟩,hl,hall⟩,hap,hz,ha,k⟩:=h;refine⟨_,(aK (sZ PassesOwn.never rfl (iI (aI (pv 0) rfl)) (pgn (i:=3) H0.nd) (aE (eQ (pcl (Ay T) hr T.m_eat T.ax (b_eat T) (aB (pv 3) (aB (dG oN (aI (pv 3) rfl) (pv 1)) aG))))
   (aK (eQ (pcl (ia T) hr T.qi T.YZ (rj T) (aB (pv 3) (aB (pv 2) aG)))))))),?_⟩
  have hlen:=hall.1;have lnot:∀p∈gs,l≠p.1:=fun p hp=>by
   obtain⟨i,hi⟩:=List.getElem?_of_mem hp;obtain⟨G,_,⟨dq,hq⟩,_⟩:=hall.at' hi;exact fV hl hq (by intro z;cases z)
  have snot:st∉gs.map (·.1):=fun hm=>by
   obtain⟨p,hp,e⟩:=List.mem_map.mp hm;obtain⟨i,hi⟩:=List.getElem?_of_mem hp;obtain⟨G,_,⟨dq,hq⟩,_⟩:=hall.at' hi;have e':p.1=st:=e;rw[e',hs] at hq
   have:=congrArg (fun o:Option HO=>match o with |some (.ins _ _ fs)=>(fs.lookup ("room":Str)).isSome |_=>false) hq
   cases this
  have lnot':l∉gs.map (·.1):=fun hm=>by
   obtain⟨p,hp,e⟩:=List.mem_map.mp hm;exact lnot p hp e.symm
  let f:CS.Good→CS.Good:=fun g=>CS.pK (CS.eat g (g.per*a)) d
  refine BY (xs:=gs.map fun p=>V.ref p.1) (aJ (aA rfl) hs T.gF T.eA rfl) (SqL.of hl) (fun j σ H'=>Chg (gs.map (·.1)) H H'∧∃v3 fst,σ=[some (.ref st),some (.int a),some (.int d),v3]∧fst.map (·.1)=(gs.take j).map (·.1)∧(∀p∈fst,H p.2=none)∧(fst.map (·.2)).Nodup∧
   dJ (fun(p:Addr×Addr) G=>fL n H' p.1 p.2 G) (fst++gs.drop j) ((S.goods.take j).map f++S.goods.drop j)) ?_ ?_ ?_ ?_
  ·exact⟨Chg.refl _ _,_,[],rfl,rfl,fun p hp=>absurd hp (by simp),by simp,hall⟩
  ·intro j σ H' _ ⟨c,_⟩;exact SqL.of (c.keep _ _ hl (.inl lnot'))
  ·rintro j x σ H' hx ⟨c,v3,fst,rfl,hf1,hf2,hf3,hal⟩;obtain⟨p,hp,rfl⟩:=LU hx;obtain⟨y,hy,_⟩:=hall.at' hp;have hjl:j < gs.length:=(List.getElem?_eq_some_iff.mp hp).1;have hfl:fst.length=j:=by
    have:=congrArg List.length hf1;rw[List.length_map,List.length_map,List.length_take] at this;omega
   have hdg:gs.drop j=p::gs.drop (j+1):=by
    obtain⟨h1,e1⟩:=List.getElem?_eq_some_iff.mp hp;rw[List.drop_eq_getElem_cons h1,e1]
   have hdS:S.goods.drop j=y::S.goods.drop (j+1):=by
    obtain⟨h1,e1⟩:=List.getElem?_eq_some_iff.mp hy;rw[List.drop_eq_getElem_cons h1,e1]
   have hml:((S.goods.take j).map f).length=j:=by rw[List.length_map,List.length_take];omega
   have hG:fL n H' p.1 p.2 y:=by
    refine hal.2 j p y ?_ ?_
    ·rw[hdg,List.getElem?_append_right (by omega),hfl];simp
    ·rw[hdS,List.getElem?_append_right (by omega),hml];simp
   obtain⟨dp,hp'⟩:=hG.obj;have hym:y∈S.goods:=List.mem_of_getElem? hy;have pm:p.1∈gs.map (·.1):=List.mem_map.mpr ⟨p,List.mem_of_getElem? hp,rfl⟩;dsimp only;refine cG (vs:=[.ref p.1,.int (y.per*a)]) (aD (aA rfl) (aD (pC (aJ (aA rfl) hp' T.dE T.qK rfl) (aA rfl) (.inr ha)) aL)) ⟨p.1,p.2,y,_,rfl,hG,hz.2 y hym,fun H2 l2 nl2 hG2 c2=>?_⟩;refine cG (vs:=[.ref p.1,.int d]) (aD (aA rfl) (aD (aA rfl) aL)) ⟨p.1,l2,_,d,rfl,hG2,Nat.le_trans (sY _ _) (hz.2 y hym),fun H3 l3 nl3 hG3 c3=>?_⟩;have c23:Chg [p.1] H' H3:=c2.trans c3;have cA:Chg (gs.map (·.1)) H H3:=c.trans (c23.cF fun b hb=>by rw[List.mem_singleton.mp hb];exact pm);have nl3':H l3=none:=c.dom _ (c2.dom _ nl3);refine⟨cA,_,fst++[(p.1,l3)],rfl,?_,?_,?_,?_⟩
   ·rw[take_snoc' hp,List.map_append,List.map_append,hf1];rfl
   ·intro q hq
    rcases List.mem_append.mp hq with q1 |q1
    ·exact hf2 q q1
    ·rw[List.mem_singleton.mp q1];exact nl3'
   ·rw[List.map_append];refine wH hf3 fun hm=>?_;obtain⟨q,hq,e⟩:=List.mem_map.mp hm;obtain⟨i,hi⟩:=List.getElem?_of_mem hq;have hi':(fst++gs.drop j)[i]? =some q:=by rw[List.getElem?_append_left (List.getElem?_eq_some_iff.mp hi).1];exact hi
    obtain⟨G,_,_,bs,hq2,_⟩:=hal.at' hi';have e':q.2=l3:=e;rw[e',c2.dom _ nl3] at hq2;cases hq2
   ·rw[take_snoc' hy,List.map_append,List.append_assoc,List.append_assoc];show dJ _ (fst++((p.1,l3)::gs.drop (j+1))) ((S.goods.take j).map f++(f y::S.goods.drop (j+1)));rw[hdg,hdS] at hal;refine⟨by have:=hal.1;simpa using this,fun i q G e1 e2=>?_⟩
    by_cases hij:i=j
    ·subst hij;rw[List.getElem?_append_right (by omega),hfl] at e1;rw[List.getElem?_append_right (by omega),hml] at e2;simp at e1 e2;subst e1 e2;exact hG3
    ·
     have e1':(fst++(p::gs.drop (j+1)))[i]? =some q:=by
      by_cases hlt:i < j
      ·rw[List.getElem?_append_left (by omega)] at e1 ⊢;exact e1
      ·rw[List.getElem?_append_right (by omega)] at e1 ⊢
       cases hk:i - fst.length with
       |zero=>omega
       |succ m=>rw[hk] at e1;simpa using e1
     have e2':((S.goods.take j).map f++(y::S.goods.drop (j+1)))[i]? =some G:=by
      by_cases hlt:i < j
      ·rw[List.getElem?_append_left (by omega)] at e2 ⊢;exact e2
      ·rw[List.getElem?_append_right (by omega)] at e2 ⊢
       cases hk:i - ((S.goods.take j).map f).length with
       |zero=>omega
       |succ m=>rw[hk] at e2;simpa using e2
     have hq:=hal.2 i q G e1' e2';have hqn:q.1≠p.1:=by
      intro z;have hmap:(fst++(p::gs.drop (j+1))).map (·.1)=gs.map (·.1):=by
       rw[List.map_append,hf1,←hdg,←List.map_append,List.take_append_drop]
      have a1:(gs.map (·.1))[i]? =some q.1:=by rw[←hmap,List.getElem?_map,e1'];rfl
      have a2:(gs.map (·.1))[j]? =some q.1:=by rw[List.getElem?_map,hp,z];rfl
      exact hij (nd_ix hap.1 a1 a2)
     have hqn2:q.2≠p.1:=by
      obtain⟨_,bs,hb,_⟩:=hq;exact fV hb hp' (by intro z;cases z)
     exact hq.chg c23 (by simpa using hqn) (by simpa using hqn2)
  ·rintro σ H' ⟨c,v3,fst,rfl,hf1,hf2,hf3,hal⟩;have hll:(gs.map fun p=>V.ref p.1).length=gs.length:=List.length_map _;rw[hll,List.take_length] at hf1;rw[hll,List.drop_length,List.append_nil,hlen,List.take_length,List.drop_length,List.append_nil] at hal;refine k H' fst hf1 hf2 ⟨by rw[hf1];exact hap.1,hf3⟩ ⟨(gH.chg ⟨ds,hs⟩ c (.inl snot)),?_,hal⟩ c;have:=c.keep _ _ hl (.inl lnot');rw[this];have e:(fst.map fun p=>V.ref p.1)=(fst.map (·.1)).map V.ref:=by rw[List.map_map];rfl
   rw[e,hf1,List.map_map];rfl
end
structure fG where
 c:Addr
 p:Addr
 r:Addr
 s:Addr
 m:Addr
def gD(P:CS.cZ)(L:fG):List (Str×V):=[("most",.int P.most),("cabins",.ref L.c),("parties",.ref L.p),("persons",.ref L.r),("standing",.ref L.s),("minutes",.ref L.m),("gate",.int P.gate),("drill",.int P.drill),("gone_out",.int P.iH),("come_in",.int P.jK),("not_counted",.int P.eJ)]
structure cK(n:bL)(H:Hp)(a:Addr)(L:fG)(P:CS.cZ):Prop where
 obj:gH H n.dC a (gD P L)
 cabins:lZ H n.iR VB L.c P.cabins
 parties:lZ H n.mM jf L.p P.parties
 persons:lZ H n.lT rc L.r P.persons
 aM:C0 H L.s P.aM
 bR:C0 H L.m P.bR
theorem cK.same{n:bL}{H H':Hp}{a:Addr}{L:fG}{P:CS.cZ}(h:cK n H a L P)(s:aX H H'):cK n H' a L P:=
 ⟨h.obj.same s,h.cabins.same s,h.parties.same s,h.persons.same s,s _ _ h.aM,s _ _ h.bR⟩
structure POk(P:CS.cZ):Prop where
 sl:P.aM.length=P.persons.length
 ml:P.bR.length=P.persons.length
 first:∀p∈P.parties,0≤p.first∧p.first < (P.persons.length:Int)
 per:∀x∈P.persons,0≤x.party∧x.party < (P.parties.length:Int)
 few:P.persons.length≤1000∧P.parties.length≤1000∧P.cabins.length≤1000
theorem qC{xs:List Int}{x:Int}(h0:0≤x)(h1:x < (xs.length:Int)):atI (xs.map V.int) x=some (.int (xs.getD x.toNat 0)):=by
 have hk:x.toNat < xs.length:=by omega
 have :x=((x.toNat:Nat):Int):=by omega
 rw[this];refine oJ ?_;rw[List.getElem?_map,List.getElem?_eq_getElem hk,Int.toNat_natCast,List.getD_eq_getElem?_getD,List.getElem?_eq_getElem hk];rfl
theorem Gu{as:List Addr}{x:Int}{a:Addr}(h0:0≤x)(h:as[x.toNat]? =some a):atI (as.map V.ref) x=some (.ref a):=by
 have :x=((x.toNat:Nat):Int):=by omega
 rw[this];exact oJ (D7 h)
theorem lZ.atI{α:Type}{H:Hp}{C l:Addr}{F:α→List (Str×V)}{xs:List α}(h:lZ H C F l xs){x:Int}{d:α}(h0:0≤x)(h1:x < (xs.length:Int)):
  ∃(as:List Addr) (a dx:Addr),H l=some (.lst (as.map V.ref))∧L2.atI (as.map V.ref) x=some (.ref a)∧H a=some (.ins C dx (F (xs.getD x.toNat d))):=by
 obtain⟨as,e,hall⟩:=h;have hk:x.toNat < xs.length:=by omega
 obtain⟨a,ha,dx,hx⟩:=hall.at (List.getElem?_eq_getElem hk);refine⟨as,a,dx,e,Gu h0 ha,?_⟩;rw[List.getD_eq_getElem?_getD,List.getElem?_eq_getElem hk];exact hx
section
variable{P:Program}{w:World}{K:PySem.W.Frag}{mg:Str→Option Value}{aT:Heap}{n:bL}
def gf(n:bL)(f:CS.cZ→V):List V→Hp→V→Prop:=fun vs H v=>∃a L Z,vs=[.ref a]∧cK n H a L Z∧v=f Z
theorem mR(T:Txt K mg n):bK P w K mg aT CX0 1 n.xJ n.xP ["people"] (spP (gf n fun Z=>.int (CS.cB Z))):=by
 refine bK.pure (T.jU.ok C8 (fun vs H Q E h=>?_) (fun cdv A bF s H vs Q E hr h=>?_))
 ·obtain⟨v,⟨a,L,Z,rfl,_⟩,_⟩:=h;rfl
 ·obtain⟨v,⟨a,L,Z,rfl,hP,rfl⟩,k⟩:=h;obtain⟨da,ha⟩:=hP.obj;have hst:H L.s=some (.lst (Z.aM.map V.int)):=hP.aM;refine⟨_,(aK (aN (nX PySem.F.plainAttrs_list PySem.F.slot_list_count PySem.F.type_list_count Ff (aI (pv 0) rfl) (aB (aV rfl T.pD) aG)))),?_⟩;exact dO (Fn (aJ (aA rfl) (by assumption) T.aY T.dA rfl) aO (SqL.of (by assumption))) (k H aX.rfl')
theorem qo(i:Int):∀ns:List Int,inV (.int i) (ns.map V.int)=!decide (ns.count i=0)
 |[]=>rfl
 |x::ns=>by
  have ih:=qo i ns;unfold inV at ih ⊢;rw[List.map_cons,List.any_cons,ih,List.count_cons];have e:eqV (.int x) (.int i)=(x==i):=rfl;rw[e]
  cases hx:(x==i) with
  |true=>simp
  |false=>simp
theorem Ey{K:PySem.W.Frag}{σ:L2.St}{H:Hp}{ta tb:TE}{i:Int}{p:Addr}{ns:List Int}(ha:EV ta σ H (.int i))(hb:EV tb σ H (.ref p))(hs:SqL K H p (ns.map V.int)):EV (tOp (rIn K true) ta tb) σ H (.bl (decide (ns.count i=0))):=
 fun Q q=>ha _ (hb _ ⟨p,_,rfl,.inl hs,rfl,(by
  rw[List.all_eq_true];intro x hx;obtain⟨y,_,rfl⟩:=List.mem_map.mp hx;rfl),by
  show Q (V.bl (!inV (.int i) (ns.map V.int))) H;rw[qo,Bool.not_not];exact q⟩)
theorem pj(Z:CS.cZ):CS.lA Z=(decide (Z.aM.count 1=0)&&decide (Z.gate=0)):=by
 unfold CS.lA CS.FH;congr 1
 by_cases c:Z.aM.count 1=0
 ·rw[decide_eq_true c,decide_eq_true (by omega)]
 ·rw[decide_eq_false c,decide_eq_false (by omega)]
theorem YF(T:Txt K mg n):bK P w K mg aT CX0 1 n.JG n.HW ["people"] (spP (gf n fun Z=>.bl (CS.lA Z))):=by
 refine bK.pure (T.yU.ok fb (fun vs H Q E h=>?_) (fun cdv A bF s H vs Q E hr h=>?_))
 ·obtain⟨v,⟨a,L,Z,rfl,_⟩,_⟩:=h;rfl
 ·obtain⟨v,⟨a,L,Z,rfl,hP,rfl⟩,k⟩:=h;obtain⟨da,ha⟩:=hP.obj;have hst:H L.s=some (.lst (Z.aM.map V.int)):=hP.aM;refine⟨_,(aK (aN (yZ (gM ej (aV rfl T.nO) (aI (pv 0) rfl) (by with_unfolding_all rfl)) (zK (gM cY (aI (pv 0) rfl) aQ (bD _)))))),?_⟩;refine dO (dR (zH (Ey aO (aJ (aA rfl) ha T.aY T.dA rfl) (SqL.of hst)) fun _=>(cP (aJ (aA rfl) ha T.aY T.gA rfl) aO)) ?_) (k H aX.rfl');exact congrArg V.bl (pj Z).symm
def ZW(n:bL):List V→Hp→V→Prop:=fun vs H v=>∃a L Z x,vs=[.ref a,.int x]∧cK n H a L Z∧POk Z∧0≤x∧v=.bl (CS.fN Z x)
theorem mP(T:Txt K mg n):bK P w K mg aT CX0 1 n.sR n.sQ ["people","person"] (spP (ZW n)):=by
 refine bK.pure (T.jC.ok UI (fun vs H Q E h=>?_) (fun cdv A bF s H vs Q E hr h=>?_))
 ·obtain⟨v,⟨a,L,Z,x,rfl,_⟩,_⟩:=h;rfl
 ·obtain⟨v,⟨a,L,Z,x,rfl,hP,hok,h0,rfl⟩,k⟩:=h;obtain⟨da,ha⟩:=hP.obj;have hst:H L.s=some (.lst (Z.aM.map V.int)):=hP.aM;obtain⟨as,hr1,hall⟩:=hP.persons;have hlen:((as.map V.ref).length:Int)=(Z.persons.length:Int):=by rw[List.length_map,hall.1]
  refine⟨_,(aK (aN (yZ (gM tL (pv 1) (bW cM (by rfl) T.eE PySem.boot_len (aB (aI (pv 0) rfl) aG)) (bD _)) (zK (gM xu (cT bV (aI (pv 0) rfl) (pv 1) (fun _ _=>rfl)) (aV rfl T.YG) (bD _)))))),?_⟩;have e1:=dR (eT (K:=K) (aJ (f:="persons") (aA (k:=0) (σ:=[some (V.ref a),some (V.int x)]) rfl) ha T.aY T.dP rfl) (SqL.of hr1)) (congrArg V.int hlen);refine dO (zH (bU (aA rfl) e1) fun q=>?_) (k H aX.rfl');have q':x < (Z.persons.length:Int):=of_decide_eq_true q;refine uk (cS (aJ (aA rfl) ha T.aY T.dA rfl) (aA rfl) (SqL.of hst) (qC h0 ?_)) aO;rw[hok.sl];exact q'
def z0(n:bL):List V→Hp→V→Prop:=fun vs H v=>∃a L Z x,vs=[.ref a,.int x]∧cK n H a L Z∧POk Z∧0≤x∧v=.bl (CS.fU Z x)
theorem getD_mem{α:Type}{l:List α}{k:Nat}{d:α}(h:k < l.length):l.getD k d∈l:=by
 rw[List.getD_eq_getElem?_getD,List.getElem?_eq_getElem h];exact List.getElem_mem h
theorem nY(T:Txt K mg n):bK P w K mg aT CX0 2 n.uI n.tV ["people","party"] (spP (z0 n)):=by
 refine bK.pure (T.jV.ok ZX (fun vs H Q E h=>?_) (fun cdv A bF s H vs Q E hr h=>?_))
 ·obtain⟨v,⟨a,L,Z,x,rfl,_⟩,_⟩:=h;rfl
 ·obtain⟨v,⟨a,L,Z,x,rfl,hP,hok,h0,rfl⟩,k⟩:=h;obtain⟨da,ha⟩:=hP.obj;obtain⟨as,hr1,hall⟩:=id hP.parties;have hlen:((as.map V.ref).length:Int)=(Z.parties.length:Int):=by rw[List.length_map,hall.1]
  refine⟨_,(aK (aN (yZ (gM tL (pv 1) (bW cM (by rfl) T.eE PySem.boot_len (aB (aI (pv 0) rfl) aG)) (bD _)) (zK (pcl (mP T) hr T.nW T.jC (nZ T) (aB (pv 0) (aB (aI (cT bV (aI (pv 0) rfl) (pv 1) (fun _ _=>rfl)) rfl) aG))))))),?_⟩;have e1:=dR (eT (K:=K) (aJ (f:="parties") (aA (k:=0) (σ:=[some (V.ref a),some (V.int x)]) rfl) ha T.aY T.dL rfl) (SqL.of hr1)) (congrArg V.int hlen);refine dO (zH (bU (aA rfl) e1) fun q=>?_) (k H aX.rfl');have q':x < (Z.parties.length:Int):=of_decide_eq_true q;obtain⟨as',b,db,hr2,hb,hb2⟩:=hP.parties.atI (d:=⟨0,0,0⟩) h0 q';refine bI (aD (aA rfl) (aD (aJ (cS (aJ (aA rfl) ha T.aY T.dL rfl) (aA rfl) (SqL.of hr2) hb) hb2 T.lU T.jS rfl) aL)) ⟨a,L,Z,_,rfl,hP,hok,?_,rfl⟩;exact(hok.first _ (getD_mem (by omega))).1
def j2(n:bL):List V→Hp→V→Prop:=fun vs H v=>∃a b X Y,vs=[.ref a,.ref b]∧gH H n.iR a (VB X)∧gH H n.iR b (VB Y)∧v=.bl (CS.xQ X Y)
theorem io(T:Txt K mg n):bK P w K mg aT CX0 1 n.IP n.KC ["cabin","other"] (spP (j2 n)):=by
 refine bK.pure (T.KW.ok ek (fun vs H Q E h=>?_) (fun cdv A bF s H vs Q E hr h=>?_))
 ·obtain⟨v,⟨a,b,X,Y,rfl,_⟩,_⟩:=h;rfl
 ·obtain⟨v,⟨a,b,X,Y,rfl,⟨da,ha⟩,⟨db,hb⟩,rfl⟩,k⟩:=h;refine⟨_,(aE (bS (bE xu (aI (pv 0) rfl) (aI (pv 1) rfl) (bD _)) (aK (aN (gM tL (aI (pv 0) rfl) (aI (pv 1) rfl) (bD _)))) bG)
   (aK (aN (gM tL (aI (pv 0) rfl) (aI (pv 1) rfl) (bD _))))),?_⟩
  unfold CS.xQ at k;refine cD (bB (uk (aJ (aA rfl) ha T.iC T.jG rfl) (aJ (aA rfl) hb T.iC T.jG rfl))) (fun e=>?_) (fun e=>?_)
  ·have e':X.rank≠Y.rank:=by simpa using e
   rw[if_pos e'] at k;exact dO (bU (aJ (aA rfl) ha T.iC T.jG rfl) (aJ (aA rfl) hb T.iC T.jG rfl)) (k H aX.rfl')
  ·have e':¬X.rank≠Y.rank:=by simpa using e
   rw[if_neg e'] at k;dsimp only[bT];exact dO (bU (aJ (aA rfl) ha T.iC T.kL rfl) (aJ (aA rfl) hb T.iC T.kL rfl)) (k H aX.rfl')
def v1(n:bL):List V→Hp→V→Prop:=fun vs H v=>∃a L Z x,vs=[.ref a,.int x]∧cK n H a L Z∧POk Z∧0≤x∧x < (Z.persons.length:Int)∧v=.int (Z.parties.getD (Z.persons.getD x.toNat ⟨0,false⟩).party.toNat ⟨0,0,0⟩).first
theorem ZY(T:Txt K mg n):bK P w K mg aT CX0 1 n.uA n.uD ["people","person"] (spP (v1 n)):=by
 refine bK.pure (T.uB.ok BT (fun vs H Q E h=>?_) (fun cdv A bF s H vs Q E hr h=>?_))
 ·obtain⟨v,⟨a,L,Z,x,rfl,_⟩,_⟩:=h;rfl
 ·obtain⟨v,⟨a,L,Z,x,rfl,hP,hok,h0,h1,rfl⟩,k⟩:=h;obtain⟨da,ha⟩:=hP.obj;refine⟨_,(aE (pst (i:=2) BT.nd (cT bV (aI (pv 0) rfl) (aI (cT bV (aI (pv 0) rfl) (pv 1) (fun _ _=>rfl)) rfl) (fun _ _=>rfl)))
   (aK (aN (aI (pv 2) rfl)))),?_⟩
  obtain⟨as,b,db,hr1,hb,hb2⟩:=hP.persons.atI (d:=⟨0,false⟩) h0 h1;have hpp:=hok.per _ (getD_mem (d:=⟨0,false⟩) (show x.toNat < Z.persons.length by omega));obtain⟨as',c,dc,hr2,hc,hc2⟩:=hP.parties.atI (d:=⟨0,0,0⟩) hpp.1 hpp.2;refine cI (cS (aJ (aA rfl) ha T.aY T.dL rfl) (aJ (cS (aJ (aA rfl) ha T.aY T.dP rfl) (aA rfl) (SqL.of hr1) hb) hb2 T.zD T.nE rfl) (SqL.of hr2) hc) ?_;exact dO (aJ (aA rfl) hc2 T.lU T.jS rfl) (k H aX.rfl')
def ug(n:bL):List V→Hp→V→Prop:=fun vs H v=>∃a L Z c,vs=[.ref a,.int c]∧cK n H a L Z∧POk Z∧v=.bl (CS.rX Z c)
theorem f7(T:Txt K mg n):bK P w K mg aT CX0 3 n.MT n.QE ["people","cabin"] (spP (ug n)):=by
 refine bK.pure (T.BU.ok qH (fun vs H Q E h=>?_) (fun cdv A bF s H vs Q E hr h=>?_))
 ·obtain⟨v,⟨a,L,Z,x,rfl,_⟩,_⟩:=h;rfl
 ·obtain⟨v,⟨a,L,Z,c,rfl,hP,hok,rfl⟩,k⟩:=h;obtain⟨da,ha⟩:=hP.obj;obtain⟨as,hl,hall⟩:=id hP.parties;refine⟨_,(aE (v7 (i:=2) (g:=z8 K 2 (sJ (dB 3) (sJ (dB 4) q5))) (tt:=(qW (tOp _ (lS K _ _) _))) (te:=_) rfl qH.nd rfl rfl (L9 rfl rfl rfl rfl) (MD rfl T.nG (aB (aI (pv 0) rfl) aG)) (gB (own:=[("number",3),("party",4)]) rfl) (fun _ _ _ _ _=>(UV rfl (nQ (pgn (i:=3) qH.nd) (nQ (pgn (i:=4) qH.nd) LR)))) (fun _ _ _ _ _=>(uR (bE cY (aI (pv 4) rfl) (pv 1) (bD _)))) (fun _ _ _ _ _=>(pv 3)))
   (aK (aN (kJ (bW (WH rfl) (by rfl) T.PJ boot_any (aB (mQ (g:=dB 3) (tt:=yK) (te:=(jH _ _ _ (dD _ (dD _ eU)))) rfl qH.nd (iI (pv 2)) (gB (own:=[("number",3)]) rfl) (fun _ _ _ _ _=>(pgn (i:=3) qH.nd)) (fun _ _ _ _ _=>mL) (fun _ _ _ _ _=>(pcl (nY T) hr T.pA T.jV (oY T) (aB (pv 0) (aB (pv 3) aG))))) aG)))))),?_⟩
  refine gR ?_;refine ML (xs:=as.map V.ref) (rs:=(List.range Z.parties.length).map fun j=>(decide ((Z.parties.getD j ⟨0,0,0⟩).cabin=c),V.int (j:Nat))) (by decide) (aD (aJ (aA rfl) ha T.aY T.dL rfl) aL) (SqL.of hl) ?_ ?_ ?_ ?_
  ·rw[List.length_map,hall.1];exact Nat.le_trans hok.few.2.1 (by decide)
  ·rw[List.length_map,List.length_map,List.length_range,hall.1]
  ·intro j x r hx hr H' sm;obtain⟨b,hb,rfl⟩:=jD hx;obtain⟨y,hy,dy,hy2⟩:=hall.at' hb;have hjl:j < Z.parties.length:=(List.getElem?_eq_some_iff.mp hy).1;rw[List.getElem?_map,List.getElem?_range hjl] at hr;cases hr;have ey:Z.parties.getD j ⟨0,0,0⟩=y:=by rw[List.getD_eq_getElem?_getD,hy];rfl
   dsimp only;rw[ey];exact⟨bB (cP (aJ (aA rfl) (sm _ _ hy2) T.lU T.oI rfl) (aA rfl)),fun _=>aA rfl⟩
  ·intro D H' hD sm e;rw[oV (fun j:Nat=>decide ((Z.parties.getD j ⟨0,0,0⟩).cabin=c)) (fun j=>V.int (j:Nat))] at e;generalize hhs:(List.range Z.parties.length).filter (fun j:Nat=>decide ((Z.parties.getD j ⟨0,0,0⟩).cabin=c))=hs at e;have hP':=hP.same sm;dsimp only[dB];refine dO (VG (bs:=hs.map fun j=>CS.fU Z (j:Nat)) fun Q q=>?_) ?_
   ·refine iB (xs:=hs.map fun j=>V.int (j:Nat)) (rs:=hs.map fun j=>(true,V.bl (CS.fU Z (j:Nat)))) (aA rfl) (SqL.of e) ?_ ?_ ?_ ?_
    ·rw[List.length_map,←hhs];refine Nat.le_trans (List.length_filter_le _ _) ?_;rw[List.length_range];exact Nat.le_trans hok.few.2.1 (by decide)
    ·rw[List.length_map,List.length_map]
    ·intro j x r hx hr H2 sm2;rw[List.getElem?_map] at hx hr
     cases hj:hs[j]? with
     |none=>rw[hj] at hx;cases hx
     |some i=>
      rw[hj] at hx hr;cases hx;cases hr;exact⟨fun Q q=>q,fun _=>bI (aD (aA rfl) (aD (aA rfl) aL)) ⟨a,L,Z,_,rfl,hP'.same sm2,hok,by omega,rfl⟩⟩
    ·intro D2 H2 hD2 sm2 e2;refine q D2 H2 hD2 sm2 ?_;rw[e2,mC,List.map_map];rfl
   ·have:=k H' sm;unfold CS.rX at this;rw[hhs] at this;exact this
def R_does(n:bL):List V→Hp→V→Prop:=fun vs H v=>∃a L Z j m r f,vs=[.ref a,.int ((j:Nat):Int),.int m,.int r,.int f]∧cK n H a L Z∧POk Z∧j < Z.cabins.length∧v=.bl (CS.does Z j m r f)
theorem Ib(T:Txt K mg n):bK P w K mg aT CX0 4 n.gc n.dk ["people","number","many","rank","flat"] (spP (R_does n)):=by
 refine bK.pure (T.gn.ok Q5 (fun vs H Q E h=>?_) (fun cdv A bF s H vs Q E hr h=>?_))
 ·obtain⟨v,⟨a,L,Z,j,m,r,f,rfl,_⟩,_⟩:=h;rfl
 ·obtain⟨v,⟨a,L,Z,j,m,r,f,rfl,hP,hok,hj,rfl⟩,k⟩:=h;obtain⟨da,ha⟩:=hP.obj;refine⟨_,(aE (pst (i:=5) Q5.nd (cT bV (aI (pv 0) rfl) (pv 1) (fun _ _=>rfl)))
   (aE (pst (i:=6) Q5.nd (yZ (gM rD (aI (pv 5) rfl) (pv 2) (bD _)) (yZ (gM rD (aI (pv 5) rfl) (pv 3) (bD _)) (zK (gM rD (aI (pv 5) rfl) (pv 4) (bD _))))))
   (aK (aN (yZ (pv 6) (zK (er (pcl (f7 T) hr T.F2 T.BU (E3 T) (aB (pv 0) (aB (pv 1) aG)))))))))),?_⟩
  obtain⟨as,b,db,hr1,hb,hb2⟩:=hP.cabins.atI (d:=⟨0,0,0,0,0⟩) (x:=((j:Nat):Int)) (by omega) (by omega);rw[Int.toNat_natCast] at hb2;refine cI (cS (aJ (aA rfl) ha T.aY T.eX rfl) (aA rfl) (SqL.of hr1) hb) ?_;dsimp only;refine cI (zH (bU (aJ (aA rfl) hb2 T.iC T.kL rfl) (aA rfl)) fun _=>(zH (bU (aJ (aA rfl) hb2 T.iC T.jG rfl) (aA rfl)) fun _=>(bU (aJ (aA rfl) hb2 T.iC T.tK rfl) (aA rfl)))) ?_;dsimp only;refine dO (zH (aA rfl) fun _=>ic (bI (aD (aA rfl) (aD (aA rfl) aL)) ⟨a,L,Z,_,rfl,hP,hok,rfl⟩)) (k H aX.rfl')
def cabNo:Option Nat→Int
 |none=> -1
 |some j=>(j:Nat)
def ir(n:bL):List V→Hp→V→Prop:=fun vs H v=>∃a L Z m r f,vs=[.ref a,.int m,.int r,.int f]∧cK n H a L Z∧POk Z∧v=.int (cabNo (CS.uZ Z m r f))
theorem X2(T:Txt K mg n):bK P w K mg aT CX0 5 n.FV n.DA ["people","many","rank","flat"] (spP (ir n)):=by
 refine bK.pure (T.FG.ok pY (fun vs H Q E h=>?_) (fun cdv A bF s H vs Q E hr h=>?_))
 ·obtain⟨v,⟨a,L,Z,m,r,f,rfl,_⟩,_⟩:=h;rfl
 ·obtain⟨v,⟨a,L,Z,m,r,f,rfl,hP,hok,rfl⟩,k⟩:=h;obtain⟨da,ha⟩:=hP.obj;obtain⟨as,hl,hall⟩:=id hP.cabins;refine⟨_,(aE (pst (i:=4) pY.nd (aV rfl T.vM))
   (aE (sZ PassesOwn.never rfl (MD rfl T.nG (aB (aI (pv 0) rfl) aG)) (UV rfl (nQ (pgn (i:=5) pY.nd) (nQ (pgn (i:=6) pY.nd) LR))) (aK (bS (dW (pcl (Ib T) hr T.m_does T.gn (b_does T) (aB (pv 0) (aB (pv 5) (aB (pv 1) (aB (pv 2) (aB (pv 3) aG))))))) (aK (bS (PW.pt (mI (bE cY (pv 4) (aV rfl T.vM) (bD _)) (rL (dW (pcl (io T) hr T.jy T.KW (qd T) (aB (pv 6) (aB (cT bV (aI (pv 0) rfl) (pv 4) (fun _ _=>rfl)) aG))))))) (aK (pst (i:=4) pY.nd (pv 5))) bG)) bG)))
   (aK (aN (pv 4))))),?_⟩
  refine cI aO ?_;dsimp only;refine J2 rfl (xs:=as.map V.ref) (aD (aJ (aA rfl) ha T.aY T.eX rfl) aL) (SqL.of hl) (fun j σ H'=>aX H H'∧∃v5 v6 b,σ=[some (.ref a),some (.int m),some (.int r),some (.int f),some (.int (cabNo b)),v5,v6]∧b=(List.range j).foldl (CS.lV Z m r f) none∧∀i,b=some i→i < j) ?_ ?_ ?_ ?_
  ·exact⟨aX.rfl',_,_,none,rfl,rfl,fun i e=>by cases e⟩
  ·intro j σ H' _ ⟨sm,_⟩;exact SqL.of (sm _ _ hl)
  ·rintro j x σ H' Tp hx ⟨sm,v5,v6,b,rfl,hb,hlt⟩ nT;obtain⟨c,hc,rfl⟩:=jD hx;obtain⟨y,hy,dy,hy2⟩:=hall.at' hc;have hjl:j < Z.cabins.length:=(List.getElem?_eq_some_iff.mp hy).1;have sm2:aX H (upd H' Tp (.tup [.int (j:Nat),.ref c])):=sm.trans (aX.upd nT);have hP2:=hP.same sm2;have ha2:=sm2 _ _ ha;have ey:Z.cabins.getD j ⟨0,0,0,0,0⟩=y:=by rw[List.getD_eq_getElem?_getD,hy];rfl
   have hstep:(List.range (j+1)).foldl (CS.lV Z m r f) none=CS.lV Z m r f b j:=by rw[List.range_succ,List.foldl_append,←hb];rfl
   dsimp only;refine cD (dX (bI (aD (aA rfl) (aD (aA rfl) (aD (aA rfl) (aD (aA rfl) (aD (aA rfl) aL))))) ⟨a,L,Z,j,m,r,f,rfl,hP2,hok,hjl,rfl⟩)) (fun e=>?_) (fun e=>?_)
   ·cases b with
    |none=>
     refine yi (qZ (lF (b:=false) (bB (cP (aA rfl) aO)) fun q=>absurd q (by decide)) rfl) ?_;refine cI (aA rfl) ⟨sm2,_,_,some j,rfl,?_,fun i q=>by cases q;omega⟩;rw[hstep];unfold CS.lV;rw[if_pos e]
    |some i=>
     have hi:=hlt i rfl;obtain⟨as',c',dc',hr2,hc',hc2⟩:=hP2.cabins.atI (d:=⟨0,0,0,0,0⟩) (x:=((i:Nat):Int)) (by omega) (by omega);rw[Int.toNat_natCast] at hc2;have t1:ET (tOr (qW (tOp rEq (fZ 4) (tC (.int (-1))))) (tB (jH (spP (j2 n)) [] E0 (dD (fZ 6) (dD (tOp (rIxL K) (lS K (fZ 0) "cabins") (fZ 4)) eU))))) [some (.ref a),some (.int m),some (.int r),some (.int f),some (.int ((i:Nat):Int)),some (.int ((j:Nat):Int)),some (.ref c)] (upd H' Tp (.tup [.int (j:Nat),.ref c])) (CS.xQ y (Z.cabins.getD i ⟨0,0,0,0,0⟩)):=
      qZ (lF (bB (cP (aA rfl) aO)) fun _=>dX (bI (aD (aA rfl) (aD (cS (aJ (aA rfl) ha2 T.aY T.eX rfl) (aA rfl) (SqL.of hr2) hc') aL)) ⟨c,c',y,_,rfl,⟨dy,sm2 _ _ hy2⟩,⟨dc',hc2⟩,rfl⟩)) (by rw[decide_eq_false (show ¬((i:Nat):Int)= -1 by omega)];rfl)
     refine cD t1 (fun e2=>?_) (fun e2=>?_)
     ·refine cI (aA rfl) ⟨sm2,_,_,some j,rfl,?_,fun i q=>by cases q;omega⟩;rw[hstep];unfold CS.lV;rw[if_pos e,ey];simp only[e2,if_true]
     ·refine⟨sm2,_,_,some i,rfl,?_,fun i' q=>by cases q;omega⟩;rw[hstep];unfold CS.lV;rw[if_pos e,ey];simp only[e2,Bool.false_eq_true,if_false]
   ·refine⟨sm2,_,_,b,rfl,?_,fun i q=>by have:=hlt i q;omega⟩;rw[hstep];unfold CS.lV;rw[if_neg (by rw[e];decide)]
  ·rintro σ H' ⟨sm,v5,v6,b,rfl,hb,hlt⟩;rw[List.length_map,hall.1] at hb;dsimp only;refine dO (aA rfl) ?_;have:=k H' sm;unfold CS.uZ at this;rw[←hb] at this;exact this
end
def LF:List V→List (Str×V)
 |[a,b,c,d,e]=>[("deck",a),("place",b),("rank",c),("berths",d),("flat",e)]
 |_=>[]
def ZN:List V→List (Str×V)
 |[a,b,c]=>[("first",a),("many",b),("cabin",c)]
 |_=>[]
def EO:List V→List (Str×V)
 |[a,b]=>[("party",a),("child",b)]
 |_=>[]
def fG.Nd(L:fG):Prop:=[L.c,L.p,L.r,L.s,L.m].Nodup
theorem fG.Nd.ne{L:fG}(h:L.Nd):L.c≠L.p∧L.c≠L.r∧L.c≠L.s∧L.c≠L.m∧L.p≠L.r∧L.p≠L.s∧L.p≠L.m∧L.r≠L.s∧L.r≠L.m∧L.s≠L.m:=by
 unfold fG.Nd at h;simp only[List.nodup_cons,List.mem_cons,List.not_mem_nil,or_false,not_or,List.nodup_nil,and_true,not_false_eq_true] at h;obtain⟨⟨a,b,c,d⟩,⟨e,f,g⟩,⟨i,j⟩,k⟩:=h;exact⟨a,b,c,d,e,f,g,i,j,k⟩
section
variable{n:bL}{H H':Hp}{a:Addr}{L:fG}{Z:CS.cZ}{A:List Addr}
theorem cK.chg(h:cK n H a L Z)(s:Chg A H H')(ha:a∉A)(hc:L.c∉A)(hp:L.p∉A)(hr:L.r∉A)(hs:L.s∉A)(hm:L.m∉A):cK n H' a L Z:=
 ⟨h.obj.chg s (.inl ha),h.cabins.chg s hc lJ,h.parties.chg s hp lK,h.persons.chg s hr jX,s.keep _ _ h.aM (.inl hs),s.keep _ _ h.bR (.inl hm)⟩
theorem cK.rJ(h:cK n H a L Z):a≠L.c∧a≠L.p∧a≠L.r∧a≠L.s∧a≠L.m:=by
 obtain⟨d,ho⟩:=h.obj;obtain⟨as,hc,_⟩:=h.cabins;obtain⟨bs,hp,_⟩:=h.parties;obtain⟨cs,hr,_⟩:=h.persons;exact⟨fV ho hc (by intro z;cases z),fV ho hp (by intro z;cases z),fV ho hr (by intro z;cases z),fV ho h.aM (by intro z;cases z),fV ho h.bR (by intro z;cases z)⟩
end
section
variable{P:Program}{w:World}{K:PySem.W.Frag}{mg:Str→Option Value}{aT:Heap}{n:bL}
theorem Z4(T:Txt K mg n):bK P w K mg aT CX0 1 n.CY n.DK ["self","deck","place","rank","berths","flat"] (spI n.iR 5 LF):=by
 refine T.YN.ok aj (fun vs H Q E h=>?_) (fun cdv A bF s H vs Q E hr h=>?_)
 ·obtain⟨p,dx,args,rfl,hl,_⟩:=h;show args.length+1=6;rw[hl]
 ·obtain⟨p,dx,args,rfl,hl,hp,k⟩:=h
  match args,hl,k with
  |[a,b,c,d,e],_,k=>
   refine⟨_,(aE (bP (pv 0) (pv 1) rfl)
   (aE (bP (pv 0) (pv 2) rfl)
   (aE (bP (pv 0) (pv 3) rfl)
   (aE (bP (pv 0) (pv 4) rfl)
   (aK (bP (pv 0) (pv 5) rfl)))))),?_⟩
   refine cN (aA rfl) (aA rfl) hp T.iC T.tN (by show 0 < 1000;decide) ?_;refine cN (aA rfl) (aA rfl) aH T.iC T.rW (by show 1 < 1000;decide) ?_;refine cN (aA rfl) (aA rfl) aH T.iC T.jG (by show 2 < 1000;decide) ?_;refine cN (aA rfl) (aA rfl) aH T.iC T.kL (by show 3 < 1000;decide) ?_;refine cN (aA rfl) (aA rfl) aH T.iC T.tK (by show 4 < 1000;decide) ?_;simp only[cO];exact k
theorem af(T:Txt K mg n):bK P w K mg aT CX0 1 n.DR n.EW ["self","first","many","cabin"] (spI n.mM 3 ZN):=by
 refine T.XH.ok ad (fun vs H Q E h=>?_) (fun cdv A bF s H vs Q E hr h=>?_)
 ·obtain⟨p,dx,args,rfl,hl,_⟩:=h;show args.length+1=4;rw[hl]
 ·obtain⟨p,dx,args,rfl,hl,hp,k⟩:=h
  match args,hl,k with
  |[a,b,c],_,k=>
   refine⟨_,(aE (bP (pv 0) (pv 1) rfl)
   (aE (bP (pv 0) (pv 2) rfl)
   (aK (bP (pv 0) (pv 3) rfl)))),?_⟩
   refine cN (aA rfl) (aA rfl) hp T.lU T.jS (by show 0 < 1000;decide) ?_;refine cN (aA rfl) (aA rfl) aH T.lU T.pS (by show 1 < 1000;decide) ?_;refine cN (aA rfl) (aA rfl) aH T.lU T.oI (by show 2 < 1000;decide) ?_;simp only[cO];exact k
theorem R3(T:Txt K mg n):bK P w K mg aT CX0 1 n.AS n.zR ["self","party","child"] (spI n.lT 2 EO):=by
 refine T.TM.ok M0 (fun vs H Q E h=>?_) (fun cdv A bF s H vs Q E hr h=>?_)
 ·obtain⟨p,dx,args,rfl,hl,_⟩:=h;show args.length+1=3;rw[hl]
 ·obtain⟨p,dx,args,rfl,hl,hp,k⟩:=h
  match args,hl,k with
  |[a,b],_,k=>
   refine⟨_,(aE (bP (pv 0) (pv 1) rfl)
   (aK (bP (pv 0) (pv 2) rfl))),?_⟩
   refine cN (aA rfl) (aA rfl) hp T.zD T.nE (by show 0 < 1000;decide) ?_;refine cN (aA rfl) (aA rfl) aH T.zD T.rA (by show 1 < 1000;decide) ?_;simp only[cO];exact k
def Q6(n:bL):Sp:=fun vs H Q _=>∃a L Z,vs=[.ref a]∧cK n H a L Z∧Z.persons.length≤1000∧∀H' m',H m'=none→cK n H' a { L with m:=m' } (CS.RM Z)→Chg [a] H H'→Q .non H'
theorem Q7(T:Txt K mg n):bK P w K mg aT CX0 1 n.AJ n.AD ["people"] (Q6 n):=by
 refine T.AZ.ok xK (fun vs H Q E h=>?_) (fun cdv A bF s H vs Q E hr h=>?_)
 ·obtain⟨a,L,Z,rfl,_⟩:=h;rfl
 ·obtain⟨a,L,Z,rfl,hP,hz,k⟩:=h;obtain⟨da,ha⟩:=hP.obj;obtain⟨as,hr1,hall⟩:=id hP.persons;obtain⟨n1,n2,n3,n4,n5⟩:=hP.rJ;refine⟨_,(aE (fT (pv 0) aQ mB)
   (aK (bP (pv 0) (mQ (g:=dB 1) (tt:=yK) (te:=_) rfl xK.nd (iI (aI (pv 0) rfl)) (gB (own:=[("person",1)]) rfl) (fun _ _ _ _ _=>(pgn (i:=1) xK.nd)) (fun _ _ _ _ _=>mL) (fun _ _ _ _ _=>(aV rfl T.GD))) rfl))),?_⟩
  refine iN (aA rfl) ha T.aY T.fM rfl aO (by show 11 < 1000;decide) ?_;have c1:Chg [a] H (upd H a (.ins n.dC da (cC "drill" (.int (Z.drill+1)) (gD Z L)))):=Chg.upd (by simp) ha rfl;dsimp only;refine y8 ?_;refine iB (xs:=as.map V.ref) (rs:=Z.persons.map fun _=>(true,V.int (-1))) (aJ (aA rfl) aH T.aY T.dP rfl) (SqL.of (aZ (Ne.symm n3) hr1)) ?_ ?_ ?_ ?_
  ·rw[List.length_map,hall.1];exact Nat.le_trans hz (by decide)
  ·rw[List.length_map,List.length_map,hall.1]
  ·intro j x r hx hr H' sm;obtain⟨b,hb,rfl⟩:=jD hx;obtain⟨y,hy,_⟩:=hall.at' hb;rw[List.getElem?_map,hy] at hr;cases hr;exact⟨fun Q q=>q,fun _=>aO⟩
  ·intro D H' hD sm e;rw[mC (fun _:CS.Person=>V.int (-1))] at e;have nDa:D≠a:=fun q=>by rw[q,aH] at hD;cases hD
   have hDn:H D=none:=by rw[bA nDa] at hD;exact hD
   have ha2:=sm _ _ aH;refine aA rfl _ ⟨a,n.dC,da,_,rfl,ha2,T.aY,T.fE,(by show 11 < 1000;decide),?_⟩
   have c2:Chg [a] H (upd H' a (.ins n.dC da (gD (CS.RM Z) { L with m:=D }))):=c1.trans ((Chg.same sm _).trans (Chg.upd (by simp) ha2 rfl))
   refine k _ D hDn ⟨⟨da,aH⟩,hP.cabins.chg c2 (by simpa using Ne.symm n1) lJ,hP.parties.chg c2 (by simpa using Ne.symm n2) lK,hP.persons.chg c2 (by simpa using Ne.symm n3) jX,c2.keep _ _ hP.aM (.inl (by simpa using Ne.symm n4)),?_⟩ c2;show(upd H' a _) D=some (.lst ((Z.persons.map fun _=>(-1:Int)).map V.int));rw[List.map_map];exact aZ nDa e
def qE(Z:CS.cZ)(many:Nat)(children cabin:Int)(k:Nat):CS.cZ:=
 {Z with parties:=Z.parties++[⟨Z.persons.length,many,cabin⟩],persons:=Z.persons++(List.range k).map fun j=>⟨Z.parties.length,decide ((j:Int)≥(many:Int) - children)⟩,aM:=Z.aM++List.replicate k 0,bR:=Z.bR++List.replicate k (-1) }
def cw(n:bL):Sp:=fun vs H Q _=>∃a L Z many children cabin,vs=[.ref a,.int ((many:Nat):Int),.int children,.int cabin]∧cK n H a L Z∧L.Nd∧POk Z∧many≤100∧
 ∀H',cK n H' a L (CS.PQ Z many children cabin)→Chg [L.p,L.r,L.s,L.m] H H'→Q (.int (Z.parties.length:Nat)) H'
theorem il(T:Txt K mg n):bK P w K mg aT CX0 3 n.HL n.JM ["people","many","children","cabin"] (cw n):=by
 refine T.JI.ok DJ (fun vs H Q E h=>?_) (fun cdv A bF s H vs Q E hr h=>?_)
 ·obtain⟨a,L,Z,many,ch,cab,rfl,_⟩:=h;rfl
 ·obtain⟨a,L,Z,many,ch,cab,rfl,hP,hnd,hok,hm,k⟩:=h;obtain⟨da,ha⟩:=hP.obj;obtain⟨n1,n2,n3,n4,n5⟩:=hP.rJ;obtain⟨d1,d2,d3,d4,d5,d6,d7,d8,d9,d10⟩:=hnd.ne;obtain⟨ps,hp1,hpall⟩:=id hP.parties;obtain⟨rs,hr1,hrall⟩:=id hP.persons;have hplen:((ps.map V.ref).length:Int)=((Z.parties.length:Nat):Int):=by rw[List.length_map,hpall.1]
  have hrlen:((rs.map V.ref).length:Int)=((Z.persons.length:Nat):Int):=by rw[List.length_map,hrall.1]
  refine⟨_,(aE (pst (i:=4) DJ.nd (bW cM (by rfl) T.eE PySem.boot_len (aB (aI (pv 0) rfl) aG)))
   (aE (eQ (nX PySem.F.plainAttrs_list PySem.F.slot_list_append PySem.F.type_list_append iQ (aI (pv 0) rfl) (aB (hJ T.Eh (af T) (hr.cF (by decide)) rfl T.Gn (ft T) .nil gK (aB (bW cM (by rfl) T.eE PySem.boot_len (aB (aI (pv 0) rfl) aG)) (aB (pv 1) (aB (pv 3) aG)))) aG)))
   (aE (sZ PassesOwn.never rfl (zI rfl T.rV (aB (pv 1) aG)) (pgn (i:=5) DJ.nd) (aE (eQ (nX PySem.F.plainAttrs_list PySem.F.slot_list_append PySem.F.type_list_append iQ (aI (pv 0) rfl) (aB (hJ T.ze (R3 T) (hr.cF (by decide)) rfl T.Dk (Z6 T) .nil gK (aB (pv 4) (aB (gM rD (pv 5) (dG mX (pv 1) (pv 2)) (bD _)) aG))) aG)))
   (aE (eQ (nX PySem.F.plainAttrs_list PySem.F.slot_list_append PySem.F.type_list_append iQ (aI (pv 0) rfl) (aB (aV rfl T.pD) aG)))
   (aK (eQ (nX PySem.F.plainAttrs_list PySem.F.slot_list_append PySem.F.type_list_append iQ (aI (pv 0) rfl) (aB (aV rfl T.GD) aG)))))))
   (aK (aN (pv 4)))))),?_⟩
  refine cI (dR (eT (aJ (aA rfl) ha T.aY T.dL rfl) (SqL.of hp1)) (congrArg V.int hplen)) ?_;dsimp only;refine sC (vs:=[.int ((Z.persons.length:Nat):Int),.int ((many:Nat):Int),.int cab]) (aJ (aA rfl) ha T.aY T.dL rfl) hp1 (aD (dR (eT (aJ (aA rfl) ha T.aY T.dP rfl) (SqL.of hr1)) (congrArg V.int hrlen)) (aD (aA rfl) (aD (aA rfl) aL))) rfl ?_ fun y dy ny ndy hne=>?_
  ·rw[List.length_map,hpall.1];exact Nat.lt_of_le_of_lt hok.few.2.1 (by decide)
  ·have s1:aX H (mkI H y dy n.mM (ZN [.int ((Z.persons.length:Nat):Int),.int ((many:Nat):Int),.int cab])):=aX.mkI ny ndy;have nyp:y≠L.p:=fun q=>by rw[q,hp1] at ny;cases ny
   have c1:Chg [L.p] H (upd (mkI H y dy n.mM (ZN [.int ((Z.persons.length:Nat):Int),.int ((many:Nat):Int),.int cab])) L.p (.lst (ps.map V.ref++[.ref y]))):=(Chg.same s1 _).trans (Chg.upd (by simp) (s1 _ _ hp1) rfl);have hP1:cK n (upd (mkI H y dy n.mM (ZN [.int ((Z.persons.length:Nat):Int),.int ((many:Nat):Int),.int cab])) L.p (.lst (ps.map V.ref++[.ref y]))) a L (qE Z many ch cab 0):=by
    refine⟨hP.obj.chg c1 (.inl (by simpa using n2)),hP.cabins.chg c1 (by simpa using d1) lJ,⟨ps++[y],?_,?_⟩,?_,?_,?_⟩
    ·rw[aH,List.map_append];rfl
    ·exact(hpall.cF fun b x r=>r.chg c1 (.inr (lK x))).tU ⟨dy,aZ nyp aH⟩
    ·show lZ _ _ _ _ (Z.persons++[]);rw[List.append_nil];exact hP.persons.chg c1 (by simpa using Ne.symm d5) jX
    ·show C0 _ _ (Z.aM++[]);rw[List.append_nil];exact c1.keep _ _ hP.aM (.inl (by simpa using Ne.symm d6))
    ·show C0 _ _ (Z.bR++[]);rw[List.append_nil];exact c1.keep _ _ hP.bR (.inl (by simpa using Ne.symm d7))
   dsimp only;refine JD (n:=((many:Nat):Int)) (aD (aA rfl) aL) (by omega) (by omega) (fun j σ H'=>Chg [L.p,L.r,L.s,L.m] H H'∧∃v5,σ=[some (.ref a),some (.int ((many:Nat):Int)),some (.int ch),some (.int cab),some (.int ((Z.parties.length:Nat):Int)),v5]∧cK n H' a L (qE Z many ch cab j)) ?_ ?_ ?_
   ·exact⟨c1.cF (fun b hb=>by rw[List.mem_singleton.mp hb];simp),_,rfl,hP1⟩
   ·rintro j σ H' hj ⟨c,v5,rfl,hPj⟩;rw[Int.toNat_natCast] at hj;obtain⟨da2,ha2⟩:=hPj.obj;obtain⟨rs2,hr2,hrall2⟩:=id hPj.persons;obtain⟨m1,m2,m3,m4,m5⟩:=hPj.rJ;have hl2:(qE Z many ch cab j).persons.length≤1100:=by
     show(Z.persons++(List.range j).map _).length≤1100;rw[List.length_append,List.length_map,List.length_range];have:=hok.few.1;omega
    dsimp only;refine sC (vs:=[.int ((Z.parties.length:Nat):Int),.bl (decide (((many:Nat):Int) - ch≤((j:Nat):Int)))]) (aJ (aA rfl) ha2 T.aY T.dP rfl) hr2 (aD (aA rfl) (aD (bU (aA rfl) (bU (aA rfl) (aA rfl))) aL)) rfl ?_ fun z dz nz ndz hnz=>?_
    ·rw[List.length_map,hrall2.1];exact Nat.lt_of_le_of_lt hl2 (by decide)
    ·have s2:aX H' (mkI H' z dz n.lT (EO [.int ((Z.parties.length:Nat):Int),.bl (decide (((many:Nat):Int) - ch≤((j:Nat):Int)))])):=aX.mkI nz ndz;have nzr:z≠L.r:=fun q=>by rw[q,hr2] at nz;cases nz
     have c2:Chg [L.r] H' (upd (mkI H' z dz n.lT (EO [.int ((Z.parties.length:Nat):Int),.bl (decide (((many:Nat):Int) - ch≤((j:Nat):Int)))])) L.r (.lst (rs2.map V.ref++[.ref z]))):=(Chg.same s2 _).trans (Chg.upd (by simp) (s2 _ _ hr2) rfl);have hzin:=aZ (H:=mkI H' z dz n.lT (EO [.int ((Z.parties.length:Nat):Int),.bl (decide (((many:Nat):Int) - ch≤((j:Nat):Int)))])) (o':=.lst (rs2.map V.ref++[.ref z])) nzr aH;generalize hH2:upd (mkI H' z dz n.lT (EO [.int ((Z.parties.length:Nat):Int),.bl (decide (((many:Nat):Int) - ch≤((j:Nat):Int)))])) L.r (.lst (rs2.map V.ref++[.ref z]))=H2 at c2 hzin;have hr3:H2 L.r=some (.lst (rs2.map V.ref++[.ref z])):=by rw[←hH2];exact aH
     have ha3:=c2.keep _ _ ha2 (.inl (by simpa using m3));have hs3:=c2.keep _ _ hPj.aM (.inl (by simpa using Ne.symm d8));dsimp only;refine xR (aJ (aA rfl) ha3 T.aY T.dA rfl) hs3 aO ?_ ?_
     ·rw[List.length_map];show(Z.aM++List.replicate j 0).length < sizeLine;rw[List.length_append,List.length_replicate,hok.sl];have:=hok.few.1;exact Nat.lt_of_le_of_lt (show Z.persons.length+j≤1100 by omega) (by decide)
     ·have c3:Chg [L.s] H2 (upd H2 L.s (.lst ((qE Z many ch cab j).aM.map V.int++[.int 0]))):=Chg.upd (by simp) hs3 rfl;have hm3:=c2.keep _ _ hPj.bR (.inl (by simpa using Ne.symm d9));have hm4:=c3.keep _ _ hm3 (.inl (by simpa using Ne.symm d10));have ha4:=c3.keep _ _ ha3 (.inl (by simpa using m4));dsimp only;refine xR (aJ (aA rfl) ha4 T.aY T.fE rfl) hm4 aO ?_ ?_
      ·rw[List.length_map];show(Z.bR++List.replicate j (-1)).length < sizeLine;rw[List.length_append,List.length_replicate,hok.ml];have:=hok.few.1;exact Nat.lt_of_le_of_lt (show Z.persons.length+j≤1100 by omega) (by decide)
      ·generalize hH3:upd H2 L.s (.lst ((qE Z many ch cab j).aM.map V.int++[.int 0]))=H3 at c3 hm4 ha4;have c4:Chg [L.m] H3 (upd H3 L.m (.lst ((qE Z many ch cab j).bR.map V.int++[.int (-1)]))):=Chg.upd (by simp) hm4 rfl;have call:Chg [L.p,L.r,L.s,L.m] H' (upd H3 L.m (.lst ((qE Z many ch cab j).bR.map V.int++[.int (-1)]))):=(c2.cF fun b hb=>by rw[List.mem_singleton.mp hb];simp).trans ((c3.cF fun b hb=>by rw[List.mem_singleton.mp hb];simp).trans (c4.cF fun b hb=>by rw[List.mem_singleton.mp hb];simp));have cr:∀{l:Addr},l≠L.r→l≠L.s→l≠L.m→∀o,H' l=some o→(upd H3 L.m (.lst ((qE Z many ch cab j).bR.map V.int++[.int (-1)]))) l=some o:=fun h1 h2 h3 o e=>c4.keep _ _ (c3.keep _ _ (c2.keep _ _ e (.inl (by simpa using h1))) (.inl (by simpa using h2))) (.inl (by simpa using h3));refine⟨c.trans call,_,rfl,?_⟩;refine⟨⟨da2,cr m3 m4 m5 _ ha2⟩,?_,?_,⟨rs2++[z],?_,?_⟩,?_,?_⟩
       ·obtain⟨xs,hx,hxa⟩:=hPj.cabins;exact⟨xs,cr d2 d3 d4 _ hx,hxa.cF fun b x r=>r.chg call (.inr (lJ x))⟩
       ·obtain⟨xs,hx,hxa⟩:=hPj.parties;exact⟨xs,cr d5 d6 d7 _ hx,hxa.cF fun b x r=>r.chg call (.inr (lK x))⟩
       ·rw[List.map_append];exact c4.keep _ _ (c3.keep _ _ hr3 (.inl (by simpa using d8))) (.inl (by simpa using d9))
       ·show dJ _ _ (Z.persons++(List.range (j+1)).map _);rw[List.range_succ,List.map_append,←List.append_assoc];refine(hrall2.cF fun b x r=>r.chg call (.inr (jX x))).tU ⟨dz,?_⟩;exact c4.keep _ _ (c3.keep _ _ hzin (.inr rfl)) (.inr rfl)
       ·show(upd H3 L.m _) L.s=some (.lst ((Z.aM++List.replicate (j+1) 0).map V.int));have e1:(Z.aM++List.replicate (j+1) 0).map V.int=(qE Z many ch cab j).aM.map V.int++[.int 0]:=by
         show _=(Z.aM++List.replicate j 0).map V.int++[V.int 0];rw[List.replicate_succ',←List.append_assoc,List.map_append];rfl
        rw[e1];refine c4.keep _ _ ?_ (.inl (by simpa using d10));rw[←hH3];exact aH
       ·show(upd H3 L.m _) L.m=some (.lst ((Z.bR++List.replicate (j+1) (-1)).map V.int));have e1:(Z.bR++List.replicate (j+1) (-1)).map V.int=(qE Z many ch cab j).bR.map V.int++[.int (-1)]:=by
         show _=(Z.bR++List.replicate j (-1)).map V.int++[V.int (-1)];rw[List.replicate_succ',←List.append_assoc,List.map_append];rfl
        rw[e1];exact aH
   ·rintro σ H' ⟨c,v5,rfl,hPj⟩;rw[Int.toNat_natCast] at hPj;dsimp only;exact dO (aA rfl) (k H' hPj c)
def jZ(a:Int):CS.cZ:=⟨a,[],[],[],[],[],0,0,0,0,0⟩
def fG.New(L:fG)(H:Hp):Prop:=H L.c=none∧H L.p=none∧H L.r=none∧H L.s=none∧H L.m=none
def O3(n:bL):Sp:=fun vs H Q _=>∃p dx a,vs=[.ref p,.int a]∧H p=some (.ins n.dC dx [])∧∀H' L,L.New H→L.Nd→cK n H' p L (jZ a)→(∀b o,H b=some o→b≠p→H' b=some o)→Q .non H'
theorem nd5{a b c d e:Addr}(h1:b≠a)(h2:c≠a)(h3:c≠b)(h4:d≠a)(h5:d≠b)(h6:d≠c)(h7:e≠a)(h8:e≠b)(h9:e≠c)(h10:e≠d):(fG.mk a b c d e).Nd:=by
 unfold fG.Nd;simp only[List.nodup_cons,List.mem_cons,List.not_mem_nil,or_false,not_or,List.nodup_nil,and_true,not_false_eq_true];exact⟨⟨Ne.symm h1,Ne.symm h2,Ne.symm h4,Ne.symm h7⟩,⟨Ne.symm h3,Ne.symm h5,Ne.symm h8⟩,⟨Ne.symm h6,Ne.symm h9⟩,Ne.symm h10⟩
theorem LV(T:Txt K mg n):bK P w K mg aT CX0 1 n.AY n.BQ ["self","most"] (O3 n):=by
 refine T.TQ.ok P1 (fun vs H Q E h=>?_) (fun cdv A bF s H vs Q E hr h=>?_)
 ·obtain⟨p,dx,a,rfl,_⟩:=h;rfl
 ·obtain⟨p,dx,a,rfl,hp,k⟩:=h;refine⟨_,(aE (bP (pv 0) (pv 1) rfl)
   (aE (bP (pv 0) (bJ aG) rfl)
   (aE (bP (pv 0) (bJ aG) rfl)
   (aE (bP (pv 0) (bJ aG) rfl)
   (aE (bP (pv 0) (bJ aG) rfl)
   (aE (bP (pv 0) (bJ aG) rfl)
   (aE (bP (pv 0) aQ rfl)
   (aE (bP (pv 0) aQ rfl)
   (aE (bP (pv 0) aQ rfl)
   (aE (bP (pv 0) aQ rfl)
   (aK (bP (pv 0) aQ rfl)))))))))))),?_⟩
  refine cN (aA rfl) (aA rfl) hp T.aY T.jQ (by show 0 < 1000;decide) ?_;refine jR (fun _=>aA rfl) aH T.aY T.eX (by show 1 < 1000;decide) fun lc hc=>?_;have c0:lc≠p:=fun q=>by rw[q,aH] at hc;cases hc
  rw[bA c0] at hc;refine jR (fun _=>aA rfl) aH T.aY T.dL (by show 2 < 1000;decide) fun lp hp'=>?_;have p0:lp≠p:=fun q=>by rw[q,aH] at hp';cases hp'
  rw[bA p0] at hp';have p1:lp≠lc:=fun q=>by rw[q,aH] at hp';cases hp'
  rw[bA p1,bA p0] at hp';refine jR (fun _=>aA rfl) aH T.aY T.dP (by show 3 < 1000;decide) fun lr hr'=>?_;have r0:lr≠p:=fun q=>by rw[q,aH] at hr';cases hr'
  rw[bA r0] at hr';have r1:lr≠lp:=fun q=>by rw[q,aH] at hr';cases hr'
  rw[bA r1,bA r0] at hr';have r2:lr≠lc:=fun q=>by rw[q,aH] at hr';cases hr'
  rw[bA r2,bA r0] at hr';refine jR (fun _=>aA rfl) aH T.aY T.dA (by show 4 < 1000;decide) fun ls hs'=>?_;have s0:ls≠p:=fun q=>by rw[q,aH] at hs';cases hs'
  rw[bA s0] at hs';have s1:ls≠lr:=fun q=>by rw[q,aH] at hs';cases hs'
  rw[bA s1,bA s0] at hs';have s2:ls≠lp:=fun q=>by rw[q,aH] at hs';cases hs'
  rw[bA s2,bA s0] at hs';have s3:ls≠lc:=fun q=>by rw[q,aH] at hs';cases hs'
  rw[bA s3,bA s0] at hs';refine jR (fun _=>aA rfl) aH T.aY T.fE (by show 5 < 1000;decide) fun lm hm'=>?_;have m0:lm≠p:=fun q=>by rw[q,aH] at hm';cases hm'
  rw[bA m0] at hm';have m1:lm≠ls:=fun q=>by rw[q,aH] at hm';cases hm'
  rw[bA m1,bA m0] at hm';have m2:lm≠lr:=fun q=>by rw[q,aH] at hm';cases hm'
  rw[bA m2,bA m0] at hm';have m3:lm≠lp:=fun q=>by rw[q,aH] at hm';cases hm'
  rw[bA m3,bA m0] at hm';have m4:lm≠lc:=fun q=>by rw[q,aH] at hm';cases hm'
  rw[bA m4,bA m0] at hm';refine cN aO (aA rfl) aH T.aY T.gA (by show 6 < 1000;decide) ?_;refine cN aO (aA rfl) aH T.aY T.fM (by show 7 < 1000;decide) ?_;refine cN aO (aA rfl) aH T.aY T.gZ (by show 8 < 1000;decide) ?_;refine cN aO (aA rfl) aH T.aY T.iE (by show 9 < 1000;decide) ?_;refine cN aO (aA rfl) aH T.aY T.fY (by show 10 < 1000;decide) ?_;simp only[cO];refine k _ ⟨lc,lp,lr,ls,lm⟩ ⟨hc,hp',hr',hs',hm'⟩ (nd5 p1 r2 r1 s3 s2 s1 m4 m3 m2 m1) ⟨⟨dx,?_⟩,⟨[],?_,dJ.nil⟩,⟨[],?_,dJ.nil⟩,⟨[],?_,dJ.nil⟩,?_,?_⟩ fun b o e hb=>?_
  ·rw[aH];rfl
  ·rw[bA c0,bA (Ne.symm m4),bA c0,bA (Ne.symm s3),bA c0,bA (Ne.symm r2),bA c0,bA (Ne.symm p1),bA c0,aH];rfl
  ·rw[bA p0,bA (Ne.symm m3),bA p0,bA (Ne.symm s2),bA p0,bA (Ne.symm r1),bA p0,aH];rfl
  ·rw[bA r0,bA (Ne.symm m2),bA r0,bA (Ne.symm s1),bA r0,aH];rfl
  ·show upd _ _ _ _=_;rw[bA s0,bA (Ne.symm m1),bA s0,aH];rfl
  ·show upd _ _ _ _=_;rw[bA m0,aH];rfl
  ·rw[bA hb,bA (bN e hm'),bA hb,bA (bN e hs'),bA hb,bA (bN e hr'),bA hb,bA (bN e hp'),bA hb,bA (bN e hc),bA hb];exact e
end
theorem LW{H Hk:Hp}{x l:Addr}{o o2 q:HO}(sm:aX H Hk)(nx:H x=none)(hn:Hk l=none)(hx:Hk x=some q):
  aX H (upd (upd Hk l o) x o2)∧(upd (upd Hk l o) x o2) x=some o2∧(upd (upd Hk l o) x o2) l=some o∧(∀b u,Hk b=some u→b≠x→(upd (upd Hk l o) x o2) b=some u)∧H l=none∧l≠x:=by
 have nlx:l≠x:=fun w=>by rw[w,hx] at hn;cases hn
 exact⟨fun b u e=>aZ (bN e nx) (aZ (bN (sm _ _ e) hn) (sm _ _ e)),aH,aZ nlx aH,fun b u e hb=>aZ hb (aZ (bN e hn) e),sm.free hn,nlx⟩
section
variable{P:Program}{w:World}{K:PySem.W.Frag}{mg:Str→Option Value}{aT:Heap}{n:bL}
def P3(n:bL):Sp:=fun vs H Q _=>∃a L Z,vs=[.ref a]∧cK n H a L Z∧∀H' a' L',H a'=none→L'.New H→L'.Nd→cK n H' a' L' Z→aX H H'→Q (.ref a') H'
theorem P0(T:Txt K mg n):bK P w K mg aT CX0 3 n.zO n.zN ["self"] (P3 n):=by
 refine T.TV.ok LM (fun vs H Q E h=>?_) (fun cdv A bF s H vs Q E hr h=>?_)
 ·obtain⟨a,L,Z,rfl,_⟩:=h;rfl
 ·obtain⟨a,L,Z,rfl,hP,k⟩:=h;obtain⟨da,ha⟩:=hP.obj;obtain⟨cs,hc1,hcall⟩:=id hP.cabins;obtain⟨ps,hp1,hpall⟩:=id hP.parties;obtain⟨rs,hr1,hrall⟩:=id hP.persons;have hs1:H L.s=some (.lst (Z.aM.map V.int)):=hP.aM;have hm1:H L.m=some (.lst (Z.bR.map V.int)):=hP.bR;refine⟨_,(aE (pst (i:=1) LM.nd (hJ T.V1 (LV T) (hr.cF (by decide)) rfl T.jg (TU T) .nil gK (aB (aI (pv 0) rfl) aG)))
   (aE (bP (pv 1) (mS lY (by rfl) T.tF PyProof.Rows.boot_list (aB (aI (pv 0) rfl) aG)) rfl)
   (aE (bP (pv 1) (mS lY (by rfl) T.tF PyProof.Rows.boot_list (aB (aI (pv 0) rfl) aG)) rfl)
   (aE (bP (pv 1) (mS lY (by rfl) T.tF PyProof.Rows.boot_list (aB (aI (pv 0) rfl) aG)) rfl)
   (aE (bP (pv 1) (mS lY (by rfl) T.tF PyProof.Rows.boot_list (aB (aI (pv 0) rfl) aG)) rfl)
   (aE (bP (pv 1) (mS lY (by rfl) T.tF PyProof.Rows.boot_list (aB (aI (pv 0) rfl) aG)) rfl)
   (aE (bP (pv 1) (aI (pv 0) rfl) rfl)
   (aE (bP (pv 1) (aI (pv 0) rfl) rfl)
   (aE (bP (pv 1) (aI (pv 0) rfl) rfl)
   (aE (bP (pv 1) (aI (pv 0) rfl) rfl)
   (aE (bP (pv 1) (aI (pv 0) rfl) rfl)
   (aK (aN (pv 1)))))))))))))),?_⟩
  refine gR ((aD (aJ (aA rfl) ha T.aY T.jQ rfl) aL) _ fun x dx nx ndx hne=>⟨x,dx,Z.most,rfl,aH,fun H1 L1 hN1 hNd1 hP1 keep=>⟨rfl,?_⟩⟩);have sm1:aX H H1:=aX.made nx ndx keep;obtain⟨dx1,hx1⟩:=hP1.obj;have nax:a≠x:=bN ha nx;dsimp only;refine rM (aJ (aA rfl) (sm1 _ _ ha) T.aY T.eX rfl) (SqL.of (sm1 _ _ hc1)) (fun _=>aA rfl) hx1 T.aY T.eX (by show 11 < 1000;decide) fun lc hnc=>?_;obtain⟨sm2,hx2,hlc,kp2,nwc,nxc⟩:=LW (o:=.lst (cs.map V.ref)) (o2:=.ins n.dC dx1 (cC "cabins" (.ref lc) (gD (jZ Z.most) L1))) sm1 nx hnc hx1;generalize upd (upd H1 lc (.lst (cs.map V.ref))) x (.ins n.dC dx1 (cC "cabins" (.ref lc) (gD (jZ Z.most) L1)))=H2 at sm2 hx2 hlc kp2 ⊢;dsimp only;refine rM (aJ (aA rfl) (sm2 _ _ ha) T.aY T.dL rfl) (SqL.of (sm2 _ _ hp1)) (fun _=>aA rfl) hx2 T.aY T.dL (by show 11 < 1000;decide) fun lp hnp=>?_;obtain⟨sm3,hx3,hlp,kp3,nwp,nxp⟩:=LW (o:=.lst (ps.map V.ref)) (o2:=.ins n.dC dx1 (cC "parties" (.ref lp) (cC "cabins" (.ref lc) (gD (jZ Z.most) L1)))) sm2 nx hnp hx2;have ne_p_c:lp≠lc:=fun q=>by rw[q,hlc] at hnp;cases hnp
  generalize upd (upd H2 lp (.lst (ps.map V.ref))) x (.ins n.dC dx1 (cC "parties" (.ref lp) (cC "cabins" (.ref lc) (gD (jZ Z.most) L1))))=H3 at sm3 hx3 hlp kp3 ⊢;have ec_3:=kp3 _ _ hlc nxc;dsimp only;refine rM (aJ (aA rfl) (sm3 _ _ ha) T.aY T.dP rfl) (SqL.of (sm3 _ _ hr1)) (fun _=>aA rfl) hx3 T.aY T.dP (by show 11 < 1000;decide) fun lr hnr=>?_;obtain⟨sm4,hx4,hlr,kp4,nwr,nxr⟩:=LW (o:=.lst (rs.map V.ref)) (o2:=.ins n.dC dx1 (cC "persons" (.ref lr) (cC "parties" (.ref lp) (cC "cabins" (.ref lc) (gD (jZ Z.most) L1))))) sm3 nx hnr hx3;have ne_r_c:lr≠lc:=fun q=>by rw[q,ec_3] at hnr;cases hnr
  have ne_r_p:lr≠lp:=fun q=>by rw[q,hlp] at hnr;cases hnr
  generalize upd (upd H3 lr (.lst (rs.map V.ref))) x (.ins n.dC dx1 (cC "persons" (.ref lr) (cC "parties" (.ref lp) (cC "cabins" (.ref lc) (gD (jZ Z.most) L1)))))=H4 at sm4 hx4 hlr kp4 ⊢;have ec_4:=kp4 _ _ ec_3 nxc;have ep_4:=kp4 _ _ hlp nxp;dsimp only;refine rM (aJ (aA rfl) (sm4 _ _ ha) T.aY T.dA rfl) (SqL.of (sm4 _ _ hs1)) (fun _=>aA rfl) hx4 T.aY T.dA (by show 11 < 1000;decide) fun ls hns=>?_;obtain⟨sm5,hx5,hls,kp5,nws,nxs⟩:=LW (o:=.lst (Z.aM.map V.int)) (o2:=.ins n.dC dx1 (cC "standing" (.ref ls) (cC "persons" (.ref lr) (cC "parties" (.ref lp) (cC "cabins" (.ref lc) (gD (jZ Z.most) L1)))))) sm4 nx hns hx4;have ne_s_c:ls≠lc:=fun q=>by rw[q,ec_4] at hns;cases hns
  have ne_s_p:ls≠lp:=fun q=>by rw[q,ep_4] at hns;cases hns
  have ne_s_r:ls≠lr:=fun q=>by rw[q,hlr] at hns;cases hns
  generalize upd (upd H4 ls (.lst (Z.aM.map V.int))) x (.ins n.dC dx1 (cC "standing" (.ref ls) (cC "persons" (.ref lr) (cC "parties" (.ref lp) (cC "cabins" (.ref lc) (gD (jZ Z.most) L1))))))=H5 at sm5 hx5 hls kp5 ⊢;have ec_5:=kp5 _ _ ec_4 nxc;have ep_5:=kp5 _ _ ep_4 nxp;have er_5:=kp5 _ _ hlr nxr;dsimp only;refine rM (aJ (aA rfl) (sm5 _ _ ha) T.aY T.fE rfl) (SqL.of (sm5 _ _ hm1)) (fun _=>aA rfl) hx5 T.aY T.fE (by show 11 < 1000;decide) fun lm hnm=>?_;obtain⟨sm6,hx6,hlm,kp6,nwm,nxm⟩:=LW (o:=.lst (Z.bR.map V.int)) (o2:=.ins n.dC dx1 (cC "minutes" (.ref lm) (cC "standing" (.ref ls) (cC "persons" (.ref lr) (cC "parties" (.ref lp) (cC "cabins" (.ref lc) (gD (jZ Z.most) L1))))))) sm5 nx hnm hx5;have ne_m_c:lm≠lc:=fun q=>by rw[q,ec_5] at hnm;cases hnm
  have ne_m_p:lm≠lp:=fun q=>by rw[q,ep_5] at hnm;cases hnm
  have ne_m_r:lm≠lr:=fun q=>by rw[q,er_5] at hnm;cases hnm
  have ne_m_s:lm≠ls:=fun q=>by rw[q,hls] at hnm;cases hnm
  generalize upd (upd H5 lm (.lst (Z.bR.map V.int))) x (.ins n.dC dx1 (cC "minutes" (.ref lm) (cC "standing" (.ref ls) (cC "persons" (.ref lr) (cC "parties" (.ref lp) (cC "cabins" (.ref lc) (gD (jZ Z.most) L1)))))))=H6 at sm6 hx6 hlm kp6 ⊢;have ec_6:=kp6 _ _ ec_5 nxc;have ep_6:=kp6 _ _ ep_5 nxp;have er_6:=kp6 _ _ er_5 nxr;have es_6:=kp6 _ _ hls nxs;dsimp only;refine cN (aJ (aA rfl) (sm6 _ _ ha) T.aY T.gA rfl) (aA rfl) hx6 T.aY T.gA (by show 11 < 1000;decide) ?_;refine cN (aJ (aA rfl) (aZ nax (sm6 _ _ ha)) T.aY T.fM rfl) (aA rfl) aH T.aY T.fM (by show 11 < 1000;decide) ?_;rw[cO];refine cN (aJ (aA rfl) (aZ nax (sm6 _ _ ha)) T.aY T.gZ rfl) (aA rfl) aH T.aY T.gZ (by show 11 < 1000;decide) ?_;rw[cO];refine cN (aJ (aA rfl) (aZ nax (sm6 _ _ ha)) T.aY T.iE rfl) (aA rfl) aH T.aY T.iE (by show 11 < 1000;decide) ?_;rw[cO];refine cN (aJ (aA rfl) (aZ nax (sm6 _ _ ha)) T.aY T.fY rfl) (aA rfl) aH T.aY T.fY (by show 11 < 1000;decide) ?_;rw[cO];refine dO (aA rfl) ?_;have sF:∀fs,aX H (upd H6 x (.ins n.dC dx1 fs)):=fun fs b o e=>aZ (bN e nx) (sm6 _ _ e);refine k _ x ⟨lc,lp,lr,ls,lm⟩ nx ⟨nwc,nwp,nwr,nws,nwm⟩ (nd5 ne_p_c ne_r_c ne_r_p ne_s_c ne_s_p ne_s_r ne_m_c ne_m_p ne_m_r ne_m_s) ⟨⟨dx1,?_⟩,⟨cs,?_,hcall.cF fun b y r=>r.same (sF _)⟩,⟨ps,?_,hpall.cF fun b y r=>r.same (sF _)⟩,⟨rs,?_,hrall.cF fun b y r=>r.same (sF _)⟩,?_,?_⟩ (sF _)
  ·rw[aH];rfl
  ·exact aZ nxc ec_6
  ·exact aZ nxp ep_6
  ·exact aZ nxr er_6
  ·exact aZ nxs es_6
  ·exact aZ nxm hlm
end
structure bZ where
 v:Addr
 w:Addr
 wl:Addr
 p:Addr
 pl:fG
 t:Addr
 s:Addr
 gl:Addr
 gs:List (Addr×Addr)
def qx(L:bZ):List (Str×V):=[("way",.ref L.w),("people",.ref L.p),("tanks",.ref L.t),("stores",.ref L.s)]
def fG.fK(L:fG):List Addr:=[L.c,L.p,L.r,L.s,L.m]
def bZ.gX(L:bZ):List Addr:=L.gl::L.gs.map (·.2)
structure bH(n:bL)(H:Hp)(L:bZ)(V:CS.aU):Prop where
 obj:gH H n.iP L.v (qx L)
 way:gQ n H L.w L.wl V.way
 aF:cK n H L.p L.pl V.aF
 tanks:gH H n.dI L.t (lH V.tanks)
 stores:gI n H L.s L.gl L.gs V.stores
 dWP:L.wl∉L.pl.fK
 dWS:L.wl∉L.gX
 dPS:∀a∈L.pl.fK,a∉L.gX
 pnd:L.pl.Nd
 sgl:L.gl∉L.gs.map (·.2)
 ap:QJ L.gs
theorem vN{H:Hp}{a b C D dx dy:Addr}{fs gs:List (Str×V)}(f:Str)(h1:H a=some (.ins C dx fs))(h2:H b=some (.ins D dy gs))(e1:(fs.lookup f).isSome=true)(e2:(gs.lookup f).isSome=false):a≠b:=fun q=>by
 subst q;rw[h1] at h2;cases h2;rw[e1] at e2;cases e2
def bZ.aW(L:bZ):List Addr:=[L.w,L.wl]
def bZ.aP(L:bZ):List Addr:=L.p::L.pl.fK
def bZ.aS(L:bZ):List Addr:=L.s::(L.gs.map (·.1)++L.gX)
section
variable{n:bL}{H H':Hp}{L:bZ}{V:CS.aU}
def IsL(H:Hp)(l:Addr):Prop:=∃xs,H l=some (.lst xs)
theorem IsL.ne{a l C dx:Addr}{fs:List (Str×L2.V)}(h:IsL H l)(h2:H a=some (.ins C dx fs)):a≠l:=let ⟨_,e⟩:=h;fV h2 e (by intro z;cases z)
theorem cK.isL{a:Addr}{L:fG}{Z:CS.cZ}(h:cK n H a L Z):∀l∈L.fK,IsL H l:=fun l hl=>by
 unfold fG.fK at hl;simp only[List.mem_cons,List.not_mem_nil,or_false] at hl
 rcases hl with rfl |rfl |rfl |rfl |rfl
 ·obtain⟨as,e,_⟩:=h.cabins;exact⟨_,e⟩
 ·obtain⟨as,e,_⟩:=h.parties;exact⟨_,e⟩
 ·obtain⟨as,e,_⟩:=h.persons;exact⟨_,e⟩
 ·exact⟨_,h.aM⟩
 ·exact⟨_,h.bR⟩
theorem bH.isLG(h:bH n H L V):∀l∈L.gX,IsL H l:=fun l hl=>by
 rcases List.mem_cons.mp hl with rfl |hl
 ·exact⟨_,h.stores.lst⟩
 ·obtain⟨p,hp,rfl⟩:=List.mem_map.mp hl;obtain⟨i,hi⟩:=List.getElem?_of_mem hp;obtain⟨G,_,_,as,e,_⟩:=h.stores.goods.at' hi;exact⟨_,e⟩
theorem bH.isLW(h:bH n H L V):IsL H L.wl:=let ⟨_,e,_⟩:=h.way.legs;⟨_,e⟩
theorem bH.good(h:bH n H L V):∀g∈L.gs.map (·.1),∃G l dx,H g=some (.ins n.eW dx (rE G l)):=fun g hg=>by
 obtain⟨p,hp,rfl⟩:=List.mem_map.mp hg;obtain⟨i,hi⟩:=List.getElem?_of_mem hp;obtain⟨G,_,⟨dx,e⟩,_⟩:=h.stores.goods.at' hi;exact⟨G,_,dx,e⟩
theorem bH.IT(h:bH n H L V):(∀a∈L.aW,a∉L.aP∧a≠L.t∧a∉L.aS)∧(∀a∈L.aP,a≠L.t∧a∉L.aS)∧L.t∉L.aS∧(L.v∉L.aW∧L.v∉L.aP∧L.v≠L.t∧L.v∉L.aS):=by
 obtain⟨dv,hv⟩:=h.obj;obtain⟨dw,hw⟩:=h.way.obj;obtain⟨dp,hp⟩:=h.aF.obj;obtain⟨dt,ht⟩:=h.tanks;obtain⟨ds,hs⟩:=h.stores.obj;have lP:=h.aF.isL;have lG:=h.isLG;have lW:=h.isLW;have gd:=h.good;have inP:∀{a},a∈L.aP↔a=L.p∨a∈L.pl.fK:=fun {a}=>List.mem_cons;have inS:∀{a},a∈L.aS↔a=L.s∨a∈L.gs.map (·.1)∨a∈L.gX:=fun {a}=>by
  unfold bZ.aS;rw[List.mem_cons,List.mem_append]
 have notS:∀{a C dx:Addr} {fs:List (Str×L2.V)},H a=some (.ins C dx fs)→(fs.lookup ("room":Str)).isSome=false→(fs.lookup ("per":Str)).isSome=false→a∉L.aS:=fun {a C dx fs} e e1 e2 hm=>by
  rcases inS.1 hm with q |q |q
  ·exact vN "room" hs e rfl e1 q.symm
  ·obtain⟨G,l,dg,hg⟩:=gd a q;exact vN "per" hg e rfl e2 rfl
  ·exact(lG a q).ne e rfl
 have listNotS:∀{l:Addr},IsL H l→l∉L.gX→l∉L.aS:=fun {l} hl hn hm=>by
  rcases inS.1 hm with q |q |q
  ·exact hl.ne hs q.symm
  ·obtain⟨G,l',dg,hg⟩:=gd l q;exact hl.ne hg rfl
  ·exact hn q
 refine⟨fun a ha=>?_,fun a ha=>?_,notS ht rfl rfl,?_,?_,vN "way" hv ht rfl rfl,notS hv rfl rfl⟩
 ·unfold bZ.aW at ha;simp only[List.mem_cons,List.not_mem_nil,or_false] at ha
  rcases ha with rfl |rfl
  ·refine⟨fun hm=>?_,vN "hour" hw ht rfl rfl,notS hw rfl rfl⟩
   rcases inP.1 hm with q |q
   ·exact vN "hour" hw hp rfl rfl q
   ·exact(lP _ q).ne hw rfl
  ·refine⟨fun hm=>?_,fun q=>lW.ne ht q.symm,listNotS lW h.dWS⟩
   rcases inP.1 hm with q |q
   ·exact lW.ne hp q.symm
   ·exact h.dWP q
 ·rcases inP.1 ha with rfl |q
  ·exact⟨vN "gate" hp ht rfl rfl,notS hp rfl rfl⟩
  ·exact⟨fun z=>(lP a q).ne ht z.symm,listNotS (lP a q) (h.dPS a q)⟩
 ·unfold bZ.aW;simp only[List.mem_cons,List.not_mem_nil,or_false,not_or];exact⟨vN "way" hv hw rfl rfl,lW.ne hv⟩
 ·intro hm
  rcases inP.1 hm with q |q
  ·exact vN "way" hv hp rfl rfl q
  ·exact(lP _ q).ne hv rfl
theorem gI.chg{s l:Addr}{gs:List (Addr×Addr)}{S:CS.gC}{A:List Addr}(h:gI n H s l gs S)(c:Chg A H H')(hs:s∉A)(hl:l∉A)(h1:∀g∈gs.map (·.1),g∉A)(h2:∀g∈gs.map (·.2),g∉A):gI n H' s l gs S:=by
 refine⟨h.obj.chg c (.inl hs),c.keep _ _ h.lst (.inl hl),⟨h.goods.1,fun i p G e1 e2=>?_⟩⟩;have hm:=List.mem_of_getElem? e1;exact(h.goods.2 i p G e1 e2).chg c (h1 _ (List.mem_map.mpr ⟨p,hm,rfl⟩)) (h2 _ (List.mem_map.mpr ⟨p,hm,rfl⟩))
theorem bH.kW(h:bH n H L V){A:List Addr}(c:Chg A H H')(hA:∀a∈A,a∈L.aP∨a=L.t∨a∈L.aS):gQ n H' L.w L.wl V.way:=by
 have d:=h.IT.1;have nA:∀a∈L.aW,a∉A:=fun a ha hm=>by
  obtain⟨d1,d2,d3⟩:=d a ha
  rcases hA a hm with q |q |q
  ·exact d1 q
  ·exact d2 q
  ·exact d3 q
 exact h.way.chg c (nA _ (by simp[bZ.aW])) (nA _ (by simp[bZ.aW]))
theorem bH.kP(h:bH n H L V){A:List Addr}(c:Chg A H H')(hA:∀a∈A,a∈L.aW∨a=L.t∨a∈L.aS):cK n H' L.p L.pl V.aF:=by
 have nA:∀a∈L.aP,a∉A:=fun a ha hm=>by
  obtain⟨d1,d2⟩:=h.IT.2.1 a ha
  rcases hA a hm with q |q |q
  ·exact(h.IT.1 a q).1 ha
  ·exact d1 q
  ·exact d2 q
 refine h.aF.chg c (nA _ ?_) (nA _ ?_) (nA _ ?_) (nA _ ?_) (nA _ ?_) (nA _ ?_) <;> simp[bZ.aP,fG.fK]
theorem bH.kT(h:bH n H L V){A:List Addr}(c:Chg A H H')(hA:∀a∈A,a∈L.aW∨a∈L.aP∨a∈L.aS):gH H' n.dI L.t (lH V.tanks):=by
 refine h.tanks.chg c (.inl fun hm=>?_)
 rcases hA _ hm with q |q |q
 ·exact(h.IT.1 _ q).2.1 rfl
 ·exact(h.IT.2.1 _ q).1 rfl
 ·exact h.IT.2.2.1 q
theorem bH.kS(h:bH n H L V){A:List Addr}(c:Chg A H H')(hA:∀a∈A,a∈L.aW∨a∈L.aP∨a=L.t):gI n H' L.s L.gl L.gs V.stores:=by
 have nA:∀a∈L.aS,a∉A:=fun a ha hm=>by
  rcases hA a hm with q |q |q
  ·exact(h.IT.1 _ q).2.2 ha
  ·exact(h.IT.2.1 _ q).2 ha
  ·exact h.IT.2.2.1 (q▸ha)
 refine h.stores.chg c (nA _ (by simp[bZ.aS])) (nA _ (by simp[bZ.aS,bZ.gX])) (fun g hg=>nA g ?_) (fun g hg=>nA g ?_)
 ·unfold bZ.aS;exact List.mem_cons_of_mem _ (List.mem_append_left _ hg)
 ·unfold bZ.aS bZ.gX;exact List.mem_cons_of_mem _ (List.mem_append_right _ (List.mem_cons_of_mem _ hg))
theorem bH.kV(h:bH n H L V){A:List Addr}(c:Chg A H H')(hA:∀a∈A,a∈L.aW∨a∈L.aP∨a=L.t∨a∈L.aS):gH H' n.iP L.v (qx L):=by
 obtain⟨_,_,_,d1,d2,d3,d4⟩:=h.IT;refine h.obj.chg c (.inl fun hm=>?_)
 rcases hA _ hm with q |q |q |q
 ·exact d1 q
 ·exact d2 q
 ·exact d3 q
 ·exact d4 q
theorem bH.bi(h:bH n H L V){W:CS.Way}(hW:gQ n H' L.w L.wl W)(c:Chg L.aW H H'):bH n H' L { V with way:=W }:=
 ⟨h.kV c fun a ha=>.inl ha,hW,h.kP c fun a ha=>.inl ha,h.kT c fun a ha=>.inl ha,h.kS c fun a ha=>.inl ha,h.dWP,h.dWS,h.dPS,h.pnd,h.sgl,h.ap⟩
theorem bH.PH(h:bH n H L V){T:CS.eP}(hT:gH H' n.dI L.t (lH T))(c:Chg [L.t] H H'):bH n H' L { V with tanks:=T }:=
 ⟨h.kV c fun a ha=>.inr (.inr (.inl (List.mem_singleton.mp ha))),h.kW c fun a ha=>.inr (.inl (List.mem_singleton.mp ha)),h.kP c fun a ha=>.inr (.inl (List.mem_singleton.mp ha)),hT,h.kS c fun a ha=>.inr (.inr (List.mem_singleton.mp ha)),h.dWP,h.dWS,h.dPS,h.pnd,h.sgl,h.ap⟩
theorem bH.oU(h:bH n H L V){Z:CS.cZ}{pl:fG}(hP:cK n H' L.p pl Z)(c:Chg L.aP H H')(hn:∀a∈pl.fK,a∈L.pl.fK∨H a=none)(hnd:pl.Nd):bH n H' { L with pl:=pl } { V with aF:=Z }:=by
 refine⟨h.kV c fun a ha=>.inr (.inl ha),h.kW c fun a ha=>.inl ha,hP,h.kT c fun a ha=>.inr (.inl ha),h.kS c fun a ha=>.inr (.inl ha),fun hm=>?_,h.dWS,fun a ha hm=>?_,hnd,h.sgl,h.ap⟩
 ·rcases hn _ hm with q |q
  ·exact h.dWP q
  ·obtain⟨xs,e⟩:=h.isLW;rw[q] at e;cases e
 ·rcases hn a ha with q |q
  ·exact h.dPS a q hm
  ·obtain⟨xs,e⟩:=h.isLG a hm;rw[q] at e;cases e
theorem bH.UO(h:bH n H L V){S:CS.gC}{gs:List (Addr×Addr)}(hS:gI n H' L.s L.gl gs S)(c:Chg L.aS H H')(hn:∀a∈gs.map (·.2),a∈L.gs.map (·.2)∨H a=none)(hap:QJ gs):bH n H' { L with gs:=gs } { V with stores:=S }:=by
 have isNew:∀{a:Addr},IsL H a→a∉L.gX→a∉L.gl::gs.map (·.2):=fun {a} hl hn' hm=>by
  rcases List.mem_cons.mp hm with q |q
  ·exact hn' (q▸List.mem_cons_self)
  ·rcases hn a q with z |z
   ·exact hn' (List.mem_cons_of_mem _ z)
   ·obtain⟨xs,e⟩:=hl;rw[z] at e;cases e
 refine⟨h.kV c fun a ha=>.inr (.inr (.inr ha)),h.kW c fun a ha=>.inr (.inr ha),h.kP c fun a ha=>.inr (.inr ha),h.kT c fun a ha=>.inr (.inr ha),hS,h.dWP,isNew h.isLW h.dWS,fun a ha=>isNew (h.aF.isL a ha) (h.dPS a ha),h.pnd,fun hm=>?_,hap⟩
 rcases hn _ hm with q |q
 ·exact h.sgl q
 ·have e:=h.stores.lst;rw[q] at e;cases e
end
def FW:List V→List (Str×V)
 |[a,b,c,d]=>[("way",a),("people",b),("tanks",c),("stores",d)]
 |_=>[]
def bZ.all(L:bZ):List Addr:=L.v::(L.aW++(L.aP++(L.t::L.aS)))
theorem uU{σ:L2.St}{H:Hp}{C a dx:Addr}{m:Str}{sp:Sp}{E:XK}{ta:TE}{fs:List (Str×V)}{Q:VK}(ho:EV ta σ H (.ref a))(h:H a=some (.ins C dx fs))(hn:fs.lookup m=none)(q:sp [.ref a] H Q E):bd C m sp [] E ta eU σ H Q:=
 ho _ ⟨a,dx,fs,rfl,h,hn,q⟩
section
variable{P:Program}{w:World}{K:PySem.W.Frag}{mg:Str→Option Value}{aT:Heap}{n:bL}
theorem LP(T:Txt K mg n):bK P w K mg aT CX0 1 n.AK n.AL ["self","way","people","tanks","stores"] (spI n.iP 4 FW):=by
 refine T.SV.ok R1 (fun vs H Q E h=>?_) (fun cdv A bF s H vs Q E hr h=>?_)
 ·obtain⟨p,dx,args,rfl,hl,_⟩:=h;show args.length+1=5;rw[hl]
 ·obtain⟨p,dx,args,rfl,hl,hp,k⟩:=h
  match args,hl,k with
  |[a,b,c,d],_,k=>
   refine⟨_,(aE (bP (pv 0) (pv 1) rfl)
   (aE (bP (pv 0) (pv 2) rfl)
   (aE (bP (pv 0) (pv 3) rfl)
   (aK (bP (pv 0) (pv 4) rfl))))),?_⟩
   refine cN (aA rfl) (aA rfl) hp T.bO T.dF (by show 0 < 1000;decide) ?_;refine cN (aA rfl) (aA rfl) aH T.bO T.cE (by show 1 < 1000;decide) ?_;refine cN (aA rfl) (aA rfl) aH T.bO T.eV (by show 2 < 1000;decide) ?_;refine cN (aA rfl) (aA rfl) aH T.bO T.eB (by show 3 < 1000;decide) ?_;simp only[cO];exact k
def Q0(n:bL):Sp:=fun vs H Q _=>∃L Z,vs=[.ref L.v]∧bH n H L Z∧Z.stores.goods.length≤1000∧∀H' L',(∀a∈L'.all,H a=none)→bH n H' L' Z→aX H H'→Q (.ref L'.v) H'
theorem LK(T:Txt K mg n):bK P w K mg aT CX0 5 n.AC n.AW ["self"] (Q0 n):=by
 refine T.TD.ok N2 (fun vs H Q E h=>?_) (fun cdv A bF s H vs Q E hr h=>?_)
 ·obtain⟨L,Z,rfl,_⟩:=h;rfl
 ·obtain⟨L,Z,rfl,hV,hz,k⟩:=h;obtain⟨dv,hv⟩:=hV.obj;obtain⟨dw,hw⟩:=hV.way.obj;obtain⟨dp,hp⟩:=hV.aF.obj;obtain⟨dt,ht⟩:=hV.tanks;obtain⟨ds,hs⟩:=hV.stores.obj;refine⟨_,(aK (aN (hJ T.T8 (LP T) (hr.cF (by decide)) rfl T.iu (TJ T) .nil gK (aB (pM (aI (pv 0) rfl) T.dM T.mo (pc T) (hr.cF (by decide)) (wm T) .nil gK) (aB (pM (aI (pv 0) rfl) T.aY T.N9 (P0 T) (hr.cF (by decide)) (X3 T) .nil gK) (aB (pM (aI (pv 0) rfl) T.bQ T.TX (TB T) (hr.cF (by decide)) (WS T) .nil gK) (aB (pM (aI (pv 0) rfl) T.gF T.N6 (M5 T) (hr.cF (by decide)) (aa T) .nil gK) aG))))))),?_⟩;refine uU (aJ (aA rfl) hv T.bO T.dF rfl) hw rfl ⟨L.w,L.wl,Z.way,rfl,hV.way,fun H1 w' wl' nw nwl hW1 s1=>?_⟩;refine uU (aJ (aA rfl) (s1 _ _ hv) T.bO T.cE rfl) (s1 _ _ hp) rfl ⟨L.p,L.pl,Z.aF,rfl,hV.aF.same s1,fun H2 p' pl' np hNew hNd hP2 s2=>?_⟩;have s12:=s1.trans s2;refine uU (aJ (aA rfl) (s12 _ _ hv) T.bO T.eV rfl) (s12 _ _ ht) rfl ⟨L.t,dt,Z.tanks,rfl,s12 _ _ ht,fun H3 t' nt hT3 s3=>?_⟩;have s13:=s12.trans s3;refine uU (aJ (aA rfl) (s13 _ _ hv) T.bO T.eB rfl) (s13 _ _ hs) rfl ⟨L.s,L.gl,L.gs,Z.stores,rfl,hV.stores.same s13,hz,fun H4 s' gl' gs' ns ngl ngs hap hS4 s4=>?_⟩;have s14:=s13.trans s4;intro x dx nx ndx hne;refine⟨x,dx,[.ref w',.ref p',.ref t',.ref s'],rfl,rfl,aH,rfl,?_⟩;rw[cO];have s5:aX H4 (mkI H4 x dx n.iP (FW [.ref w',.ref p',.ref t',.ref s'])):=aX.mkI nx ndx;have hP4:=hP2.same (s3.trans s4);have hW4:=hW1.same (s2.trans (s3.trans s4));obtain⟨ls,hwl,_⟩:=hW1.legs;have newP:∀a∈pl'.fK,H1 a=none:=fun a ha=>by
   unfold fG.fK at ha;simp only[List.mem_cons,List.not_mem_nil,or_false] at ha
   rcases ha with rfl |rfl |rfl |rfl |rfl
   ·exact hNew.1
   ·exact hNew.2.1
   ·exact hNew.2.2.1
   ·exact hNew.2.2.2.1
   ·exact hNew.2.2.2.2
  have newG:∀a∈gl'::gs'.map (·.2),H3 a=none:=fun a ha=>by
   rcases List.mem_cons.mp ha with rfl |ha
   ·exact ngl
   ·obtain⟨q,hq,rfl⟩:=List.mem_map.mp ha;exact(ngs q hq).2.1
  refine k _ ⟨x,w',wl',p',pl',t',s',gl',gs'⟩ (fun a ha=>?_) ⟨⟨dx,aH⟩,hW4.same s5,hP4.same s5,(hT3.same s4).same s5,hS4.same s5,fun hm=>?_,fun hm=>?_,fun a ha hm=>?_,hNd,fun hm=>?_,hap⟩ (s14.trans s5)
  ·unfold bZ.all at ha
   rcases List.mem_cons.mp ha with rfl |ha
   ·exact s14.free nx
   ·rcases List.mem_append.mp ha with ha |ha
    ·unfold bZ.aW at ha;simp only[List.mem_cons,List.not_mem_nil,or_false] at ha
     rcases ha with rfl |rfl
     ·exact nw
     ·exact nwl
    ·rcases List.mem_append.mp ha with ha |ha
     ·rcases List.mem_cons.mp ha with rfl |ha
      ·exact s1.free np
      ·exact s1.free (newP a ha)
     ·rcases List.mem_cons.mp ha with rfl |ha
      ·exact s12.free nt
      ·rcases List.mem_cons.mp ha with rfl |ha
       ·exact s13.free ns
       ·rcases List.mem_append.mp ha with ha |ha
        ·obtain⟨q,hq,rfl⟩:=List.mem_map.mp ha;exact s13.free (ngs q hq).1
        ·exact s13.free (newG a ha)
  ·have:=newP _ hm;rw[hwl] at this;cases this
  ·have:=newG _ hm;rw[(s2.trans s3) _ _ hwl] at this;cases this
  ·obtain⟨xs,e⟩:=hP2.isL a ha;have:=newG a hm;rw[s3 _ _ e] at this;cases this
  ·obtain⟨q,hq,e⟩:=List.mem_map.mp hm;exact(ngs q hq).2.2 e
end
theorem bH.same{n:bL}{H H':Hp}{L:bZ}{Z:CS.aU}(h:bH n H L Z)(s:aX H H'):bH n H' L Z:=
 ⟨h.obj.same s,h.way.same s,h.aF.same s,h.tanks.same s,h.stores.same s,h.dWP,h.dWS,h.dPS,h.pnd,h.sgl,h.ap⟩
def oS(n:bL)(H:Hp)(L:bZ)(x:CS.aU×List Int)(Q:VK):Prop:=∀H' L' r,L'.v=L.v→bH n H' L' x.1→H' r=some (.lst (x.2.map V.int))→Chg L.all H H'→(∀a∈L'.all,a∈L.all∨H a=none)→H r=none→Q (.ref r) H'
section
variable{n:bL}{H H1:Hp}{L L1:bZ}{Z:CS.aU}{x:CS.aU×List Int}{Q:VK}{D:lB}{σ:L2.St}{tl:TA}
theorem oS.no(k:oS n H L x Q)(hV:bH n H L Z){c:Int}(e:x=(Z,[c]))(hD:D.rt=Q):GF (EU (dD (tC (.int c)) eU)) D σ H:=by
 refine⟨(by show 1≤sizeLine;decide),fun r nr=>?_⟩;rw[hD];subst e;exact k _ L r rfl (hV.same (aX.upd nr)) aH (Chg.same (aX.upd nr) _) (fun a ha=>.inl ha) nr
theorem oS.yes(k:oS n H L x Q)(hV:bH n H1 L1 x.1)(hv:L1.v=L.v)(c:Chg L.all H H1)(hn:∀a∈L1.all,a∈L.all∨H a=none)(ha:EA tl σ H1 (x.2.map V.int))(hz:x.2.length≤1000)(hD:D.rt=Q):GF (EU tl) D σ H1:=by
 refine ha _ ⟨?_,fun r nr=>?_⟩
 ·rw[List.length_map];exact Nat.le_trans hz (by decide)
 ·rw[hD];exact k _ L1 r hv (hV.same (aX.upd nr)) aH (c.trans (Chg.same (aX.upd nr) _)) hn (c.dom _ nr)
theorem RJ:L.t∈L.all:=by unfold bZ.all;simp
theorem LO{a:Addr}(h:a∈L.aW):a∈L.all:=by unfold bZ.all;exact List.mem_cons_of_mem _ (List.mem_append_left _ h)
theorem pU{a:Addr}(h:a∈L.aP):a∈L.all:=by unfold bZ.all;exact List.mem_cons_of_mem _ (List.mem_append_right _ (List.mem_append_left _ h))
theorem rS{a:Addr}(h:a∈L.aS):a∈L.all:=by unfold bZ.all;exact List.mem_cons_of_mem _ (List.mem_append_right _ (List.mem_append_right _ (List.mem_cons_of_mem _ h)))
end
section
variable{P:Program}{w:World}{K:PySem.W.Frag}{mg:Str→Option Value}{aT:Heap}{n:bL}
def bz(n:bL):Sp:=fun vs H Q _=>∃L Z i,vs=[.ref L.v,.int i]∧bH n H L Z∧oS n H L (CS.pH Z i) Q
theorem gh(T:Txt K mg n):bK P w K mg aT CX0 4 n.IZ n.IK ["vessel","n"] (bz n):=by
 refine T.KR.ok YE (fun vs H Q E h=>?_) (fun cdv A bF s H vs Q E hr h=>?_)
 ·obtain⟨L,Z,i,rfl,_⟩:=h;rfl
 ·obtain⟨L,Z,i,rfl,hV,k⟩:=h;obtain⟨dv,hv⟩:=hV.obj;obtain⟨dt,ht⟩:=hV.tanks;refine⟨_,(aE (pst (i:=2) YE.nd (aI (pv 0) rfl))
   (aE (bS (bE cY (pv 1) aQ (bD _)) (aK (aN (bJ (aB (aV rfl T.eC) aG)))) bG)
   (aE (bS (dW (pcl (kC T) hr T.lN T.iW (lI T) (aB (aI (pv 0) rfl) aG))) (aK (aN (bJ (aB (aV rfl T.jE) aG)))) bG)
   (aE (bS (bE fW (pv 1) (pcl (SR T) hr T.VA T.wM (XA T) (aB (pv 2) aG)) (bD _)) (aK (aN (bJ (aB (aV rfl T.uY) aG)))) bG)
   (aE (bS (bE fW (dG gJ (aI (pv 2) rfl) (pv 1)) (aV rfl T.wV) (bD _)) (aK (aN (bJ (aB (aV rfl T.jW) aG)))) bG)
   (aE (eQ (pcl (C9 T) hr T.U3 T.HJ (V7 T) (aB (pv 2) (aB (pv 1) aG))))
   (aK (aN (bJ (aB (aI (pv 2) rfl) aG)))))))))),?_⟩
  unfold CS.pH at k;refine cI (aJ (aA rfl) hv T.bO T.eV rfl) ?_;dsimp only;refine cD (bB (cP (aA rfl) aO)) (fun e=>?_) (fun e=>?_)
  ·rw[if_pos (of_decide_eq_true e)] at k;exact k.no hV rfl rfl
  rw[if_neg (of_decide_eq_false e)] at k;dsimp only[bT];refine cD (dX (bI (aD (aJ (aA rfl) hv T.bO T.dF rfl) aL) ⟨L.w,L.wl,Z.way,rfl,hV.way,rfl⟩)) (fun e=>?_) (fun e=>?_)
  ·rw[if_pos e] at k;exact k.no hV rfl rfl
  rw[if_neg (by rw[e];decide)] at k;dsimp only[bT];refine cD (bB (bU (aA rfl) (bI (aD (aA rfl) aL) ⟨L.t,dt,Z.tanks,rfl,ht,rfl⟩))) (fun e=>?_) (fun e=>?_)
  ·rw[if_pos (of_decide_eq_true e)] at k;exact k.no hV rfl rfl
  rw[if_neg (of_decide_eq_false e)] at k;dsimp only[bT];refine cD (bB (bU (bU (aJ (aA rfl) ht T.bQ T.gO rfl) (aA rfl)) aO)) (fun e=>?_) (fun e=>?_)
  ·rw[if_pos (of_decide_eq_true e)] at k;exact k.no hV rfl rfl
  rw[if_neg (of_decide_eq_false e)] at k;dsimp only[bT];refine cG (vs:=[.ref L.t,.int i]) (aD (aA rfl) (aD (aA rfl) aL)) ⟨i,L.t,dt,Z.tanks,rfl,trivial,ht,?_⟩;have c:Chg [L.t] H (upd H L.t (.ins n.dI dt (lH (CS.FM Z.tanks i)))):=Chg.upd (by simp) ht rfl;exact k.yes (hV.PH ⟨dt,aH⟩ c) rfl (c.cF fun b hb=>by rw[List.mem_singleton.mp hb];exact RJ) (fun a ha=>.inl ha) (aD (aJ (aA rfl) aH T.bQ T.fI rfl) aL) (by show 1≤1000;decide) rfl
def bx(n:bL):Sp:=fun vs H Q _=>∃L Z g b,vs=[.ref L.v,.int g,.int b]∧bH n H L Z∧oS n H L (CS.pP Z g b) Q
theorem jv(T:Txt K mg n):bK P w K mg aT CX0 4 n.JX n.JB ["vessel","grey","black"] (bx n):=by
 refine T.IC.ok YT (fun vs H Q E h=>?_) (fun cdv A bF s H vs Q E hr h=>?_)
 ·obtain⟨L,Z,g,b,rfl,_⟩:=h;rfl
 ·obtain⟨L,Z,g,b,rfl,hV,k⟩:=h;obtain⟨dv,hv⟩:=hV.obj;obtain⟨dt,ht⟩:=hV.tanks;refine⟨_,(aE (pst (i:=3) YT.nd (aI (pv 0) rfl))
   (aE (bS (PW.pt (oQ (bE cY (pv 1) aQ (bD _)) (oF (bE cY (pv 2) aQ (bD _))))) (aK (aN (bJ (aB (aV rfl T.eC) aG)))) bG)
   (aE (bS (dW (pcl (kC T) hr T.lN T.iW (lI T) (aB (aI (pv 0) rfl) aG))) (aK (aN (bJ (aB (aV rfl T.jE) aG)))) bG)
   (aE (bS (PW.pt (mI (bE fW (pv 1) (aI (pv 3) rfl) (bD _)) (rL (bE fW (pv 2) (aI (pv 3) rfl) (bD _))))) (aK (aN (bJ (aB (aV rfl T.DE) aG)))) bG)
   (aE (fT (pv 3) (pv 1) jm)
   (aE (fT (pv 3) (pv 2) jm)
   (aK (aN (bJ (aB (aI (pv 3) rfl) (aB (aI (pv 3) rfl) aG))))))))))),?_⟩
  unfold CS.pP at k;refine cI (aJ (aA rfl) hv T.bO T.eV rfl) ?_;dsimp only;refine cD (oR (bB (cP (aA rfl) aO)) fun _=>bB (cP (aA rfl) aO)) (fun e=>?_) (fun e=>?_)
  ·simp only[Bool.and_eq_true,decide_eq_true_eq] at e;rw[if_pos e] at k;exact k.no hV rfl rfl
  rw[if_neg (by intro z;rw[decide_eq_true z.1,decide_eq_true z.2] at e;cases e)] at k;dsimp only[bT];refine cD (dX (bI (aD (aJ (aA rfl) hv T.bO T.dF rfl) aL) ⟨L.w,L.wl,Z.way,rfl,hV.way,rfl⟩)) (fun e=>?_) (fun e=>?_)
  ·rw[if_pos e] at k;exact k.no hV rfl rfl
  rw[if_neg (by rw[e];decide)] at k;dsimp only[bT];refine cD (lF (bB (bU (aA rfl) (aJ (aA rfl) ht T.bQ T.fX rfl))) fun _=>bB (bU (aA rfl) (aJ (aA rfl) ht T.bQ T.fJ rfl))) (fun e=>?_) (fun e=>?_)
  ·simp only[Bool.or_eq_true,decide_eq_true_eq] at e;rw[if_pos e] at k;exact k.no hV rfl rfl
  rw[if_neg (by intro z;rcases z with z |z <;> · rw[decide_eq_true z] at e;simp at e)] at k
  dsimp only[bT];refine o7 (aA rfl) ht T.bQ T.fX rfl (aA rfl) (by show 13 < 1000;decide) ?_;refine o7 (aA rfl) aH T.bQ T.fJ rfl (aA rfl) (by show 13 < 1000;decide) ?_;rw[cO]
  have c:Chg [L.t] H (upd H L.t (.ins n.dI dt (lH { Z.tanks with grey:=Z.tanks.grey - g,black:=Z.tanks.black - b }))):=Chg.upd (by simp) ht rfl
  exact k.yes (hV.PH ⟨dt,aH⟩ c) rfl (c.cF fun b hb=>by rw[List.mem_singleton.mp hb];exact RJ) (fun a ha=>.inl ha) (aD (aJ (aA rfl) aH T.bQ T.fX rfl) (aD (aJ (aA rfl) aH T.bQ T.fJ rfl) aL)) (by show 2≤1000;decide) rfl
def Dg(n:bL):Sp:=fun vs H Q _=>∃L Z a g b,vs=[.ref L.v,.int a,.int g,.int b]∧bH n H L Z∧oS n H L (CS.CB Z a g b) Q
theorem Cw(T:Txt K mg n):bK P w K mg aT CX0 1 n.u6 n.m9 ["vessel","making","grey","black"] (Dg n):=by
 refine T.v9.ok XV (fun vs H Q E h=>?_) (fun cdv A bF s H vs Q E hr h=>?_)
 ·obtain⟨L,Z,a,g,b,rfl,_⟩:=h;rfl
 ·obtain⟨L,Z,a,g,b,rfl,hV,k⟩:=h;obtain⟨dv,hv⟩:=hV.obj;obtain⟨dt,ht⟩:=hV.tanks;refine⟨_,(aE (pst (i:=4) XV.nd (aI (pv 0) rfl))
   (aE (bS (PW.pt (mI (bE fW (pv 1) aQ (bD _)) (mI (bE fW (pv 2) aQ (bD _)) (rL (bE fW (pv 3) aQ (bD _)))))) (aK (aN (bJ (aB (aV rfl T.eC) aG)))) bG)
   (aE (pst (i:=5) XV.nd (dG gJ (dG gJ (aI (pv 4) rfl) (dG oN aQ (aI (pv 4) rfl))) (dG oN aQ (aI (pv 4) rfl))))
   (aE (bS (bE cY (pv 5) (dG gJ (dG gJ (pv 1) (dG oN aQ (pv 2))) (dG oN aQ (pv 3))) (bD _)) (aK (aN (bJ (aB (aV rfl T.rP) aG)))) bG)
   (aE (bP (pv 4) (pv 1) rfl)
   (aE (bP (pv 4) (pv 2) rfl)
   (aE (bP (pv 4) (pv 3) rfl)
   (aK (aN (bJ (aB (pv 5) aG))))))))))),?_⟩
  unfold CS.CB at k;refine cI (aJ (aA rfl) hv T.bO T.eV rfl) ?_;dsimp only at k ⊢;refine cD (lF (bB (bU (aA rfl) aO)) fun _=>lF (bB (bU (aA rfl) aO)) fun _=>bB (bU (aA rfl) aO)) (fun e=>?_) (fun e=>?_)
  ·simp only[Bool.or_eq_true,decide_eq_true_eq] at e;rw[if_pos e] at k;exact k.no hV rfl rfl
  rw[if_neg (by intro z;rcases z with z |z |z <;> · rw[decide_eq_true z] at e;simp at e)] at k
  dsimp only[bT];refine cI (bU (bU (aJ (aA rfl) ht T.bQ T.iF rfl) (pC aO (aJ (aA rfl) ht T.bQ T.gG rfl) (.inl ⟨by decide,by decide⟩))) (pC aO (aJ (aA rfl) ht T.bQ T.fS rfl) (.inl ⟨by decide,by decide⟩))) ?_;dsimp only;refine cD (bB (cP (aA rfl) (bU (bU (aA rfl) (pC aO (aA rfl) (.inl ⟨by decide,by decide⟩))) (pC aO (aA rfl) (.inl ⟨by decide,by decide⟩))))) (fun e=>?_) (fun e=>?_)
  ·rw[if_pos (of_decide_eq_true e)] at k;exact k.no hV rfl rfl
  rw[if_neg (of_decide_eq_false e)] at k;dsimp only[bT];refine cN (aA rfl) (aA rfl) ht T.bQ T.iF (by show 13 < 1000;decide) ?_;refine cN (aA rfl) (aA rfl) aH T.bQ T.gG (by show 13 < 1000;decide) ?_;rw[cO];refine cN (aA rfl) (aA rfl) aH T.bQ T.fS (by show 13 < 1000;decide) ?_;rw[cO]
  have c:Chg [L.t] H (upd H L.t (.ins n.dI dt (lH { Z.tanks with making:=a,nF:=g,lM:=b }))):=Chg.upd (by simp) ht rfl
  exact k.yes (hV.PH ⟨dt,aH⟩ c) rfl (c.cF fun b hb=>by rw[List.mem_singleton.mp hb];exact RJ) (fun a ha=>.inl ha) (aD (aA rfl) aL) (by show 1≤1000;decide) rfl
end
theorem L7:∀{l:List CS.Leg} {t:Int},CS.eM l t=none→CS.eM l (t+1)=none
 |[],_,_=>rfl
 |x::l,t,h=>by
  simp only[CS.eM] at h ⊢
  split at h
  ·cases h
  ·rename_i c;rw[if_neg (by omega)];have h':CS.eM l (t - x.hours)=none:=by
    cases e:CS.eM l (t - x.hours) with
    |none=>rfl
    |some k=>rw[e] at h;cases h
   have:=L7 h';rw[show t+1 - x.hours=t - x.hours+1 by omega,this];rfl
theorem nb{W:CS.Way}(h:CS.kG W=true):∃k,CS.eM W.legs W.hour=some k:=by
 cases e:CS.eM W.legs W.hour with
 |some k=>exact⟨k,rfl⟩
 |none=>
  exfalso;have e2:=L7 e;unfold CS.kG CS.eH CS.tH at h;rw[e2] at h;simp at h
theorem gQ.hourUp{n:bL}{H:Hp}{w l dw:Addr}{W:CS.Way}{i:Int}(h:gQ n H w l W)(hw:H w=some (.ins n.kN dw (EI W l))):
  gQ n (upd H w (.ins n.kN dw (cC "hour" (.int i) (EI W l)))) w l { W with hour:=i }∧Chg [w] H (upd H w (.ins n.kN dw (cC "hour" (.int i) (EI W l)))):=by
 have c:Chg [w] H (upd H w (.ins n.kN dw (cC "hour" (.int i) (EI W l)))):=Chg.upd (by simp) hw rfl;refine⟨⟨⟨dw,by rw[aH];rfl⟩,h.legs.chg c ?_ ZG⟩,c⟩;obtain⟨as,e,_⟩:=h.legs;simp only[List.mem_singleton];exact Ne.symm (fV hw e (by intro z;cases z))
structure FF(Z:CS.aU):Prop where
 few:sD Z.stores
 per:Z.aF.aM.length≤1000
theorem FF.aboard{Z:CS.aU}(h:FF Z): -(2 ^ 64) < CS.cB Z.aF∧CS.cB Z.aF < 2 ^ 64:=by
 unfold CS.cB;have h1:=List.count_le_length (a:=(0:Int)) (l:=Z.aF.aM);have h2:=h.per;omega
theorem xj{S:CS.gC}{a d:Int}(h:sD S):sD (CS.GH S a d):=by
 refine⟨?_,fun G hG=>?_⟩
 ·show(S.goods.map _).length≤1000;rw[List.length_map];exact h.1
 ·obtain⟨x,hx,rfl⟩:=List.mem_map.mp (show G∈S.goods.map _ from hG);show(((CS.eat x (x.per*a)).lots).filter _).length≤1000;refine Nat.le_trans (List.length_filter_le _ _) ?_;exact Nat.le_trans (sY _ _) (h.2 x hx)
theorem nj{Z:CS.aU}(h:FF Z):FF (CS.eS Z).1:=by
 refine⟨?_,h.per⟩;unfold CS.eS;dsimp only
 split <;> split <;> first |exact xj h.few |exact h.few
theorem rY:∀(j:Nat) (Z:CS.aU) (k:Int),CS.dU (j+1) Z k=((CS.eS (CS.dU j Z k).1).1,(CS.dU j Z k).2+(CS.eS (CS.dU j Z k).1).2)
 |0,Z,k=>rfl
 |j+1,Z,k=>by
  show CS.dU (j+1) (CS.eS Z).1 (k+(CS.eS Z).2)=_;rw[rY j];rfl
theorem WQ{Z:CS.aU}(h:FF Z):∀j,FF (CS.dU j Z 0).1
 |0=>h
 |j+1=>by rw[rY];exact nj (WQ h j)
theorem Chg.into{A B:List Addr}{H H1 H2:Hp}(c1:Chg A H H1)(c2:Chg B H1 H2)(hB:∀a∈B,a∈A∨H a=none):Chg A H H2:=
 ⟨fun b o e h=>c2.keep b o (c1.keep b o e h) (h.elim (fun q=>.inl fun hm=>(hB b hm).elim q fun z=>by rw[z] at e;cases e) .inr),fun b e=>c1.dom b (c2.dom b e)⟩
section
variable{P:Program}{w:World}{K:PySem.W.Frag}{mg:Str→Option Value}{aT:Heap}{n:bL}
def KontH(n:bL)(H:Hp)(L:bZ)(Z:CS.aU)(Q:Hp→Prop):Prop:=∀H' gs,bH n H' { L with gs:=gs } Z→Chg L.all H H'→(∀a∈bZ.all { L with gs:=gs },a∈L.all∨H a=none)→Q H'
def jt(n:bL):Sp:=fun vs H Q _=>∃L Z,vs=[.ref L.v]∧bH n H L Z∧FF Z∧KontH n H L (CS.eS Z).1 (Q (.int (CS.eS Z).2))
theorem jj(T:Txt K mg n):bK P w K mg aT CX0 5 n.KZ n.KU ["vessel"] (jt n):=by
 refine T.IN.ok wL (fun vs H Q E h=>?_) (fun cdv A bF s H vs Q E hr h=>?_)
 ·obtain⟨L,Z,rfl,_⟩:=h;rfl
 ·obtain⟨L,Z,rfl,hV,hok,k⟩:=h;obtain⟨dv,hv⟩:=hV.obj;refine⟨_,(aE (pst (i:=1) wL.nd (aI (pv 0) rfl))
   (aE (pst (i:=2) wL.nd (pcl (mR T) hr T.oM T.jU (oH T) (aB (aI (pv 0) rfl) aG)))
   (aE (bS (PW.pt (oQ (dW (pcl (SK T) hr T.WV T.wD (VZ T) (aB (pv 1) aG))) (oF (rR (dW (pcl (YF T) hr T.a8 T.yU (k8 T) (aB (aI (pv 0) rfl) aG))))))) (aK (eQ (pcl (MR T) hr T.UD T.qS (UC T) (aB (pv 1) aG)))) bG)
   (aE (pst (i:=3) wL.nd (pcl (SO T) hr T.YJ T.wC (YX T) (aB (aI (pv 0) rfl) (aB (pcl (sV T) hr T.vW T.pI (wB T) (aB (pv 1) (aB (aI (pv 1) rfl) aG))) (aB (pcl (JK T) hr T.MH T.vR (NS T) (aB (pv 1) (aB (aI (pv 1) rfl) aG))) (aB (pv 2) aG))))))
   (aE (fT (pv 1) aQ mB)
   (aE (bS (bE cY (dG op_mod (aI (pv 1) rfl) (aV rfl T.kQ)) aQ (bD _)) (aK (eQ (pcl (xy T) hr T.As T.VM (Ax T) (aB (aI (pv 0) rfl) (aB (pv 2) (aB (pcl (xL T) hr T.CJ T.vB (CN T) (aB (pv 1) aG)) aG)))))) bG)
   (aK (aN (pv 3))))))))),?_⟩
  refine cI (aJ (aA rfl) hv T.bO T.dF rfl) ?_;refine cI (bI (aD (aJ (aA rfl) hv T.bO T.cE rfl) aL) ⟨L.p,L.pl,Z.aF,rfl,hV.aF,rfl⟩) ?_
  have key:∀(H1:Hp) (W:CS.Way),bH n H1 L { Z with way:=W }→Chg L.all H H1→(if (CS.kG Z.way&&!CS.lA Z.aF)=true then CS.jN Z.way else Z.way)=W→
    tSeq (IM (jH (SM n) [] E0 (dD (lS K (fZ 0) "tanks") (dD (jH (spP (F3 n)) [] E0 (dD (fZ 1) (dD (lS K (fZ 1) "hour") eU))) (dD (jH (spP (E4 n)) [] E0 (dD (fZ 1) (dD (lS K (fZ 1) "hour") eU))) (dD (fZ 2) eU))))) (dB 3))
     (tSeq (ZM K (fZ 1) (tC (.int 1)) rAdd "hour")
      (tSeq (tIfS (qW (tOp rEq (tOp (rI (fun _ j=>0 < j) fun i j=>.int (i % j)) (lS K (fZ 1) "hour") (tC (.int 24))) (tC (.int 0)))) (BZ (jH (C7 n) [] E0 (dD (lS K (fZ 0) "stores") (dD (fZ 2) (dD (jH (spP (rq n)) [] E0 (dD (fZ 1) eU)) eU))))) bT)
       (GF (fZ 3)))) { nx:=fun _ H'=>Q .non H',rt:=Q } [some (.ref L.v),some (.ref L.w),some (.int (CS.cB Z.aF)),none] H1:=by
   intro H1 W hV1 c1 hW;obtain⟨dv1,hv1⟩:=hV1.obj;obtain⟨dw1,hw1⟩:=hV1.way.obj;obtain⟨dt1,ht1⟩:=hV1.tanks;refine gR ?_;refine cG (vs:=[.ref L.t,.int (CS.eH W W.hour),.int (CS.eR W W.hour),.int (CS.cB Z.aF)]) (aD (aJ (aA rfl) hv1 T.bO T.eV rfl) (aD (bI (aD (aA rfl) (aD (aJ (aA rfl) hw1 T.dM T.dS rfl) aL)) ⟨L.w,L.wl,W,W.hour,rfl,hV1.way,rfl⟩) (aD (bI (aD (aA rfl) (aD (aJ (aA rfl) hw1 T.dM T.dS rfl) aL)) ⟨L.w,L.wl,W,W.hour,rfl,hV1.way,rfl⟩) (aD (aA rfl) aL)))) ⟨_,_,_,hok.aboard,L.t,dt1,Z.tanks,rfl,trivial,ht1,?_⟩;have c2:Chg [L.t] H1 (upd H1 L.t (.ins n.dI dt1 (lH (CS.iU Z.tanks (CS.eH W W.hour) (CS.eR W W.hour) (CS.cB Z.aF))))):=Chg.upd (by simp) ht1 rfl;have hV2:=hV1.PH (T:=CS.iU Z.tanks (CS.eH W W.hour) (CS.eR W W.hour) (CS.cB Z.aF)) ⟨dt1,aH⟩ c2;dsimp only[dB];generalize upd H1 L.t (.ins n.dI dt1 (lH (CS.iU Z.tanks (CS.eH W W.hour) (CS.eR W W.hour) (CS.cB Z.aF))))=H2 at c2 hV2 ⊢;obtain⟨dw2,hw2⟩:=hV2.way.obj;refine iN (aA rfl) hw2 T.dM T.dS rfl aO (by show 4 < 1000;decide) ?_;obtain⟨hW3,c3⟩:=hV2.way.hourUp (i:=W.hour+1) hw2;have hV3:=hV2.bi hW3 (c3.cF fun b hb=>by rw[List.mem_singleton.mp hb];simp[bZ.aW]);have cA:Chg L.all H (upd H2 L.w (.ins n.kN dw2 (cC "hour" (.int (W.hour+1)) (EI W L.wl)))):=c1.trans ((c2.cF fun b hb=>by rw[List.mem_singleton.mp hb];exact RJ).trans (c3.cF fun b hb=>by rw[List.mem_singleton.mp hb];exact LO (by simp[bZ.aW])));dsimp only;generalize upd H2 L.w (.ins n.kN dw2 (cC "hour" (.int (W.hour+1)) (EI W L.wl)))=H3 at c3 hV3 cA ⊢;obtain⟨dw3,hw3⟩:=hV3.way.obj;obtain⟨dv3,hv3⟩:=hV3.obj
   have hp:CS.eS Z=({ Z with way:={ W with hour:=W.hour+1 },tanks:=CS.iU Z.tanks (CS.eH W W.hour) (CS.eR W W.hour) (CS.cB Z.aF),stores:=if (W.hour+1) % 24=0 then CS.GH Z.stores (CS.cB Z.aF) (CS.today { W with hour:=W.hour+1 }) else Z.stores },CS.mJ Z.tanks (CS.eH W W.hour) (CS.eR W W.hour) (CS.cB Z.aF)):=by
    unfold CS.eS;rw[hW]
   rw[hp] at k;refine cD (bB (cP (pC (aJ (aA rfl) hw3 T.dM T.dS rfl) aO (by decide)) aO)) (fun e=>?_) (fun e=>?_)
   ·have e':(W.hour+1) % 24=0:=of_decide_eq_true e;simp only[if_pos e'] at k
    refine cG (vs:=[.ref L.s,.int (CS.cB Z.aF),.int (CS.today { W with hour:=W.hour+1 })]) (aD (aJ (aA rfl) hv3 T.bO T.eB rfl) (aD (aA rfl) (aD (bI (aD (aA rfl) aL) ⟨L.w,L.wl,_,rfl,hV3.way,rfl⟩) aL))) ⟨L.s,L.gl,L.gs,Z.stores,_,_,rfl,hV3.stores,hV3.ap,hok.few,hok.aboard,fun H4 gs hf hn hap hS c4=>?_⟩
    dsimp only;refine dO (aA rfl) ?_;have c4':Chg L.aS H3 H4:=c4.cF fun b hb=>by unfold bZ.aS;exact List.mem_cons_of_mem _ (List.mem_append_left _ hb)
    refine k H4 gs (hV3.UO hS c4' (fun a ha=>?_) hap) (cA.trans (c4'.cF fun b hb=>rS hb)) fun a ha=>?_
    ·obtain⟨q,hq,rfl⟩:=List.mem_map.mp ha;exact .inr (hn q hq)
    ·unfold bZ.all bZ.aS bZ.gX at ha
     rcases List.mem_cons.mp ha with q |ha
     ·exact .inl (by rw[q];unfold bZ.all;simp)
     ·rcases List.mem_append.mp ha with q |ha
      ·exact .inl (LO q)
      ·rcases List.mem_append.mp ha with q |ha
       ·exact .inl (pU q)
       ·rcases List.mem_cons.mp ha with q |ha
        ·exact .inl (by rw[q];exact RJ)
        ·rcases List.mem_cons.mp ha with q |ha
         ·exact .inl (by rw[q];exact rS (by simp[bZ.aS]))
         ·rcases List.mem_append.mp ha with q |ha
          ·rw[show({ L with gs:=gs }:bZ).gs=gs from rfl,hf] at q
           exact .inl (rS (by unfold bZ.aS;exact List.mem_cons_of_mem _ (List.mem_append_left _ q)))
          ·rcases List.mem_cons.mp ha with q |ha
           ·exact .inl (by rw[q];exact rS (by simp[bZ.aS,bZ.gX]))
           ·obtain⟨q,hq,rfl⟩:=List.mem_map.mp ha;exact .inr (cA.dom _ (hn q hq))
   ·have e':¬(W.hour+1) % 24=0:=of_decide_eq_false e;simp only[if_neg e'] at k;dsimp only[bT];refine dO (aA rfl) ?_;exact k H3 L.gs hV3 cA fun a ha=>.inl ha
  dsimp only;refine cD (oR (dX (bI (aD (aA rfl) aL) ⟨L.w,L.wl,Z.way,rfl,hV.way,rfl⟩)) fun _=>rU (dX (bI (aD (aJ (aA rfl) hv T.bO T.cE rfl) aL) ⟨L.p,L.pl,Z.aF,rfl,hV.aF,rfl⟩))) (fun e=>?_) (fun e=>?_)
  ·obtain⟨j,hj⟩:=nb (Bool.and_eq_true _ _▸e).1;refine cG (vs:=[.ref L.w]) (aD (aA rfl) aL) ⟨L.w,L.wl,Z.way,j,rfl,hV.way,hj,fun H1 hW1 c1=>?_⟩;exact key H1 (CS.jN Z.way) (hV.bi hW1 c1) (c1.cF fun b hb=>LO hb) (by rw[if_pos e])
  ·exact key H Z.way hV (Chg.refl _ _) (by rw[if_neg (by rw[e];decide)])
def la(n:bL):Sp:=fun vs H Q _=>∃L Z i,vs=[.ref L.v,.int i]∧bH n H L Z∧FF Z∧oS n H L (CS.kO Z i) Q
theorem g8(T:Txt K mg n):bK P w K mg aT CX0 6 n.OO n.MM ["vessel","n"] (la n):=by
 refine T.BX.ok qG (fun vs H Q E h=>?_) (fun cdv A bF s H vs Q E hr h=>?_)
 ·obtain⟨L,Z,i,rfl,_⟩:=h;rfl
 ·obtain⟨L,Z,i,rfl,hV,hok,k⟩:=h;obtain⟨dv,hv⟩:=hV.obj;obtain⟨dw,hw⟩:=hV.way.obj;refine⟨_,(aE (pst (i:=2) qG.nd (aI (pv 0) rfl))
   (aE (bS (dW (pcl (iY T) hr T.kE T.iS (kF T) (aB (pv 1) (aB aQ (aB (aV rfl T.FD) aG))))) (aK (aN (bJ (aB (aV rfl T.eC) aG)))) bG)
   (aE (bS (bE fW (dG gJ (aI (pv 2) rfl) (pv 1)) (pcl (ae T) hr T.eh T.DD (bq T) (aB (pv 2) aG)) (bD _)) (aK (aN (bJ (aB (aV rfl T.RO) aG)))) bG)
   (aE (pst (i:=3) qG.nd (aI (pv 2) rfl))
   (aE (pst (i:=4) qG.nd aQ)
   (aE (sZ PassesOwn.never rfl (zI rfl T.rV (aB (pv 1) aG)) (pgn (i:=5) qG.nd) (aK (K8 (i:=4) qG.nd rfl (by first |exact Or.inl rfl |exact Or.inr rfl) (pcl (jj T) hr T.ot T.IN (oe T) (aB (pv 0) aG)) bh)))
   (aK (aN (bJ (aB (aI (pv 2) rfl) (aB (dG mX (aI (pv 2) rfl) (pv 3)) (aB (pv 4) (aB (tO (dW (pcl (kC T) hr T.lN T.iW (lI T) (aB (pv 2) aG))) aQ aQ) aG))))))))))))),?_⟩
  unfold CS.kO at k;refine cI (aJ (aA rfl) hv T.bO T.dF rfl) ?_;dsimp only;refine cD (dX (bI (aD (aA rfl) (aD aO (aD aO aL))) ⟨_,_,_,rfl,rfl⟩)) (fun e=>?_) (fun e=>?_)
  ·rw[if_pos e] at k;exact k.no hV rfl rfl
  rw[if_neg (by rw[e];decide)] at k;dsimp only[bT];refine cD (bB (bU (bU (aJ (aA rfl) hw T.dM T.dS rfl) (aA rfl)) (bI (aD (aA rfl) aL) ⟨L.w,L.wl,Z.way,rfl,hV.way,rfl⟩))) (fun e2=>?_) (fun e2=>?_)
  ·rw[if_pos (of_decide_eq_true e2)] at k;exact k.no hV rfl rfl
  rw[if_neg (of_decide_eq_false e2)] at k;have hi:0≤i∧i < 2 ^ 62:=by
   unfold CS.cJ at e;simp only[Bool.or_eq_false_iff,decide_eq_false_iff_not] at e;omega
  dsimp only[bT];refine cI (aJ (aA rfl) hw T.dM T.iL rfl) ?_;refine cI aO ?_;dsimp only
  refine JD (n:=i) (aD (aA rfl) aL) hi.1 hi.2 (fun j σ H'=>∃v6 gs,σ=[some (.ref L.v),some (.int i),some (.ref L.w),some (.int Z.way.fC),some (.int (CS.dU j Z 0).2),v6]∧bH n H' { L with gs:=gs } (CS.dU j Z 0).1∧Chg L.all H H'∧∀a∈bZ.all { L with gs:=gs },a∈L.all∨H a=none) ?_ ?_ ?_
  ·exact⟨_,L.gs,rfl,hV,Chg.refl _ _,fun a ha=>.inl ha⟩
  ·rintro j σ H' hj ⟨v6,gs,rfl,hVj,cj,hnj⟩;refine⟨_,rfl,?_⟩
   refine cG (vs:=[.ref L.v]) (aD (aA rfl) aL) ⟨{ L with gs:=gs },_,rfl,hVj,WQ hok j,fun H2 gs2 hV2 c2 hn2=>?_⟩
   refine⟨_,_,rfl,rfl,?_⟩;refine⟨_,gs2,by rw[rY];rfl,by rw[rY];exact hV2,cj.into c2 hnj,fun a ha=>?_⟩
   rcases hn2 a ha with q |q
   ·exact hnj a q
   ·exact .inr (cj.dom _ q)
  ·rintro σ H' ⟨v6,gs,rfl,hVj,cj,hnj⟩;obtain⟨dw2,hw2⟩:=hVj.way.obj;dsimp only at k ⊢;refine k.yes hVj rfl cj hnj ?_ (by show 4≤1000;decide) rfl;refine aD (aJ (aA rfl) hw2 T.dM T.dS rfl) (aD (bU (aJ (aA rfl) hw2 T.dM T.iL rfl) (aA rfl)) (aD (aA rfl) (aD (dR (E7 (dX (bI (aD (aA rfl) aL) ⟨L.w,L.wl,_,rfl,hVj.way,rfl⟩)) (fun _=>aO) (fun _=>aO)) ?_) aL)));cases CS.gP (CS.dU i.toNat Z 0).1.way <;> rfl
end
theorem MC{k m:Nat}:decide (((k:Nat):Int)=(m:Int))=decide (k=m):=by
 by_cases h:k=m
 ·rw[decide_eq_true h,decide_eq_true (by omega)]
 ·rw[decide_eq_false h,decide_eq_false (by omega)]
theorem all_pl{L:bZ}{pl:fG}{a:Addr}(h:a∈bZ.all { L with pl:=pl }):a∈L.all∨a∈pl.fK:=by
 unfold bZ.all at h
 rcases List.mem_cons.mp h with q |h
 ·exact .inl (by rw[q];unfold bZ.all;simp)
 ·rcases List.mem_append.mp h with q |h
  ·exact .inl (LO q)
  ·rcases List.mem_append.mp h with q |h
   ·rcases List.mem_cons.mp q with q |q
    ·exact .inl (pU (by rw[q];simp[bZ.aP]))
    ·exact .inr q
   ·rcases List.mem_cons.mp h with q |h
    ·exact .inl (by rw[q];exact RJ)
    ·exact .inl (rS h)
theorem all_gs{L:bZ}{gs:List (Addr×Addr)}{a:Addr}(h:a∈bZ.all { L with gs:=gs }):a∈L.all∨a∈gs.map (·.1)∨a∈gs.map (·.2):=by
 unfold bZ.all at h
 rcases List.mem_cons.mp h with q |h
 ·exact .inl (by rw[q];unfold bZ.all;simp)
 ·rcases List.mem_append.mp h with q |h
  ·exact .inl (LO q)
  ·rcases List.mem_append.mp h with q |h
   ·exact .inl (pU q)
   ·rcases List.mem_cons.mp h with q |h
    ·exact .inl (by rw[q];exact RJ)
    ·unfold bZ.aS bZ.gX at h
     rcases List.mem_cons.mp h with q |h
     ·exact .inl (by rw[q];exact rS (by simp[bZ.aS]))
     ·rcases List.mem_append.mp h with q |h
      ·exact .inr (.inl q)
      ·rcases List.mem_cons.mp h with q |h
       ·exact .inl (by rw[q];exact rS (by simp[bZ.aS,bZ.gX]))
       ·exact .inr (.inr h)
section
variable{P:Program}{w:World}{K:PySem.W.Frag}{mg:Str→Option Value}{aT:Heap}{n:bL}
def Bj(n:bL):Sp:=fun vs H Q _=>∃L Z h m kn,vs=[.ref L.v,.int h,.int m,.int kn]∧bH n H L Z∧Z.way.legs.length≤100∧oS n H L (CS.CG Z h m kn) Q
theorem zm(T:Txt K mg n):bK P w K mg aT CX0 3 n.A2 n.x8 ["vessel","hours","miles","knots"] (Bj n):=by
 refine T.t0.ok W6 (fun vs H Q E h=>?_) (fun cdv A bF s H vs Q E hr h=>?_)
 ·obtain⟨L,Z,a,b,c,rfl,_⟩:=h;rfl
 ·obtain⟨L,Z,h,m,kn,rfl,hV,hz,k⟩:=h;obtain⟨dv,hv⟩:=hV.obj;obtain⟨dw,hw⟩:=hV.way.obj;obtain⟨as,hl,hall⟩:=id hV.way.legs;have hlen:((as.map V.ref).length:Int)=((Z.way.legs.length:Nat):Int):=by rw[List.length_map,hall.1]
  refine⟨_,(aE (pst (i:=4) W6.nd (aI (pv 0) rfl))
   (aE (bS (PW.pt (oQ (bE fW (pv 2) aQ (bD _)) (oF (bE op_le (pcl (CC T) hr T.GL T.uW (GQ T) (aB (pv 4) aG)) (aI (pv 4) rfl) (bD _))))) (aK (aN (bJ (aB (aV rfl T.jE) aG)))) bG)
   (aE (bS (PW.pt (mI (dW (pcl (iY T) hr T.kE T.iS (kF T) (aB (pv 1) (aB aQ (aB aQ aG))))) (mI (bE fW (pv 2) aQ (bD _)) (rL (bE fW (pv 3) aQ (bD _)))))) (aK (aN (bJ (aB (aV rfl T.eC) aG)))) bG)
   (aE (bS (bE cY (bW cM (by rfl) T.eE PySem.boot_len (aB (aI (pv 4) rfl) aG)) (aV rfl T.KJ) (bD _)) (aK (aN (bJ (aB (aV rfl T.jW) aG)))) bG)
   (aE (bS (bE fW (aI (pv 4) rfl) (pcl (CC T) hr T.GL T.uW (GQ T) (aB (pv 4) aG)) (bD _)) (aK (aN (bJ (aB (aV rfl T.jE) aG)))) bG)
   (aE (eQ (nX PySem.F.plainAttrs_list PySem.F.slot_list_append PySem.F.type_list_append iQ (aI (pv 4) rfl) (aB (hJ T.Bq (a9 T) (hr.cF (by decide)) rfl T.m_Leg (J6 T) .nil gK (aB (pv 1) (aB (pv 2) (aB (pv 3) aG)))) aG)))
   (aK (aN (bJ (aB (pcl (CC T) hr T.GL T.uW (GQ T) (aB (pv 4) aG)) aG)))))))))),?_⟩
  unfold CS.CG at k;refine cI (aJ (aA rfl) hv T.bO T.dF rfl) ?_;dsimp only;refine cD (oR (bB (bU (aA rfl) aO)) fun _=>bB (bU (bI (aD (aA rfl) aL) ⟨L.w,L.wl,Z.way,rfl,hV.way,Nat.le_trans hz (by decide),rfl⟩) (aJ (aA rfl) hw T.dM T.dS rfl))) (fun e=>?_) (fun e=>?_)
  ·simp only[Bool.and_eq_true,decide_eq_true_eq] at e;rw[if_pos e] at k;exact k.no hV rfl rfl
  rw[if_neg (by intro z;rw[decide_eq_true z.1,decide_eq_true z.2] at e;cases e)] at k;dsimp only[bT];refine cD (lF (dX (bI (aD (aA rfl) (aD aO (aD aO aL))) ⟨_,_,_,rfl,rfl⟩)) fun _=>lF (bB (bU (aA rfl) aO)) fun _=>bB (bU (aA rfl) aO)) (fun e=>?_) (fun e=>?_)
  ·simp only[Bool.or_eq_true,decide_eq_true_eq] at e;rw[if_pos e] at k;exact k.no hV rfl rfl
  rw[if_neg (by
   intro z
   rcases z with z |z |z
   ·rw[z] at e;cases e
   ·rw[decide_eq_true z] at e;simp at e
   ·rw[decide_eq_true z] at e;simp at e)] at k
  dsimp only[bT];refine cD (qZ (bB (cP (dR (eT (aJ (aA rfl) hw T.dM T.fO rfl) (SqL.of hl)) (congrArg V.int hlen)) aO)) (MC (m:=10))) (fun e=>?_) (fun e=>?_)
  ·rw[if_pos (of_decide_eq_true e)] at k;exact k.no hV rfl rfl
  rw[if_neg (of_decide_eq_false e)] at k;dsimp only[bT];refine cD (bB (bU (aJ (aA rfl) hw T.dM T.dS rfl) (bI (aD (aA rfl) aL) ⟨L.w,L.wl,Z.way,rfl,hV.way,Nat.le_trans hz (by decide),rfl⟩))) (fun e=>?_) (fun e=>?_)
  ·rw[if_pos (of_decide_eq_true e)] at k;exact k.no hV rfl rfl
  rw[if_neg (of_decide_eq_false e)] at k;dsimp only[bT];refine sC (vs:=[.int h,.int m,.int kn]) (aJ (aA rfl) hw T.dM T.fO rfl) hl (aD (aA rfl) (aD (aA rfl) (aD (aA rfl) aL))) rfl ?_ fun y dy ny ndy hne=>?_
  ·rw[List.length_map,hall.1];exact Nat.lt_of_le_of_lt hz (by decide)
  ·have s1:aX H (mkI H y dy n.qX (NX [.int h,.int m,.int kn])):=aX.mkI ny ndy;have nyl:y≠L.wl:=fun q=>by rw[q,hl] at ny;cases ny
   have nwl:L.w≠L.wl:=fV hw hl (by intro z;cases z);have c:Chg L.aW H (upd (mkI H y dy n.qX (NX [.int h,.int m,.int kn])) L.wl (.lst (as.map V.ref++[.ref y]))):=(Chg.same s1 _).trans (Chg.upd (by simp[bZ.aW]) (s1 _ _ hl) rfl)
   have hW:gQ n (upd (mkI H y dy n.qX (NX [.int h,.int m,.int kn])) L.wl (.lst (as.map V.ref++[.ref y]))) L.w L.wl { Z.way with legs:=Z.way.legs++[⟨h,m,kn⟩] }:=by
    refine⟨⟨dw,aZ nwl (s1 _ _ hw)⟩,as++[y],?_,?_⟩
    ·rw[aH,List.map_append];rfl
    ·exact(hall.cF fun b x r=>r.chg c (.inr (ZG x))).tU ⟨dy,aZ nyl aH⟩
   dsimp only;refine k.yes (hV.bi hW c) rfl (c.cF fun b hb=>LO hb) (fun a ha=>.inl ha) (aD (dR (bI (aD (aA rfl) aL) ⟨L.w,L.wl,_,rfl,hW,?_,rfl⟩) ?_) aL) (by show 1≤1000;decide) rfl
   ·show(Z.way.legs++[_]).length≤1000;rw[List.length_append];exact Nat.le_trans (Nat.add_le_add_right hz 1) (by decide)
   ·show V.int _=V.int _;congr 1;show((Z.way.legs++[_]).map CS.Leg.hours).sum=CS.wP Z.way+h;rw[List.map_append,List.sum_append];simp[CS.wP]
def ur(n:bL):List V→Hp→V→Prop:=fun vs H v=>∃l xs d p,vs=[.ref l,.int d,.int p]∧lZ H n.iR VB l xs∧xs.length≤1000∧v=.bl ((xs.map fun c=>decide (c.deck=d)&&decide (c.place=p)).any id)
theorem oa(T:Txt K mg n):bK P w K mg aT CX0 1 n.OT n.MQ ["cabins","deck","place"] (spP (ur n)):=by
 refine bK.pure (T.RW.ok KF (fun vs H Q E h=>?_) (fun cdv A bF s H vs Q E hr h=>?_))
 ·obtain⟨v,⟨a,b,c,d,rfl,_⟩,_⟩:=h;rfl
 ·obtain⟨v,⟨l,xs,d,p,rfl,⟨as,hl,hall⟩,hz,rfl⟩,k⟩:=h;refine⟨_,(aK (aN (kJ (bW (WH rfl) (by rfl) T.PJ boot_any (aB (mQ (g:=dB 3) (tt:=yK) (te:=(yj (tOp _ (lS K _ _) _) (tOp _ (lS K _ _) _))) rfl KF.nd (iI (pv 0)) (gB (own:=[("cabin",3)]) rfl) (fun _ _ _ _ _=>(pgn (i:=3) KF.nd)) (fun _ _ _ _ _=>mL) (fun _ _ _ _ _=>(yZ (gM cY (aI (pv 3) rfl) (pv 1) (bD _)) (zK (gM cY (aI (pv 3) rfl) (pv 2) (bD _)))))) aG))))),?_⟩;refine dO (VG (bs:=xs.map fun(c:CS.Cabin)=>decide (c.deck=d)&&decide (c.place=p)) fun Q q=>?_) (k H aX.rfl');refine iB (xs:=as.map V.ref) (rs:=xs.map fun(c:CS.Cabin)=>(true,V.bl (decide (c.deck=d)&&decide (c.place=p)))) (aA rfl) (SqL.of hl) ?_ ?_ ?_ ?_
  ·rw[List.length_map,hall.1];exact Nat.le_trans hz (by decide)
  ·rw[List.length_map,List.length_map,hall.1]
  ·intro i x r hx hr H' sm;obtain⟨a,ha,rfl⟩:=jD hx;obtain⟨y,hy,dy,hy2⟩:=hall.at' ha;rw[List.getElem?_map,hy] at hr;cases hr;exact⟨fun Q q=>q,fun _=>zH (cP (aJ (aA rfl) (sm _ _ hy2) T.iC T.tN rfl) (aA rfl)) fun _=>cP (aJ (aA rfl) (sm _ _ hy2) T.iC T.rW rfl) (aA rfl)⟩
  ·intro D H' hD sm e;refine q D H' hD sm ?_;rw[e,mC,List.map_map];rfl
def vm(n:bL):Sp:=fun vs H Q _=>∃L Z o,vs=[.ref L.v,.int o]∧bH n H L Z∧oS n H L (CS.vG Z o) Q
theorem yn(T:Txt K mg n):bK P w K mg aT CX0 4 n.WX n.XO ["vessel","opened"] (vm n):=by
 refine T.WK.ok SC (fun vs H Q E h=>?_) (fun cdv A bF s H vs Q E hr h=>?_)
 ·obtain⟨L,Z,o,rfl,_⟩:=h;rfl
 ·obtain⟨L,Z,o,rfl,hV,k⟩:=h;obtain⟨dv,hv⟩:=hV.obj;obtain⟨dp,hp⟩:=hV.aF.obj;refine⟨_,(aE (pst (i:=2) SC.nd (aI (pv 0) rfl))
   (aE (bS (bE fW (pv 1) aQ (bD _)) (aK (aN (bJ (aB (aV rfl T.eC) aG)))) bG)
   (aE (bS (PW.pt (oQ (bE cY (pv 1) aQ (bD _)) (oF (dW (pcl (kC T) hr T.lN T.iW (lI T) (aB (aI (pv 0) rfl) aG)))))) (aK (aN (bJ (aB (aV rfl T.jE) aG)))) bG)
   (aE (bS (bE cY (aI (pv 2) rfl) (pv 1) (bD _)) (aK (aN (bJ (aB (aV rfl T.rP) aG)))) bG)
   (aE (pst (i:=3) SC.nd (aI (pv 2) rfl))
   (aE (bP (pv 2) (pv 1) rfl)
   (aK (aN (bJ (aB (pv 3) aG)))))))))),?_⟩
  unfold CS.vG at k;refine cI (aJ (aA rfl) hv T.bO T.cE rfl) ?_;dsimp only;refine cD (bB (bU (aA rfl) aO)) (fun e=>?_) (fun e=>?_)
  ·rw[if_pos (of_decide_eq_true e)] at k;exact k.no hV rfl rfl
  rw[if_neg (of_decide_eq_false e)] at k;dsimp only[bT];refine cD (oR (bB (cP (aA rfl) aO)) fun _=>dX (bI (aD (aJ (aA rfl) hv T.bO T.dF rfl) aL) ⟨L.w,L.wl,Z.way,rfl,hV.way,rfl⟩)) (fun e=>?_) (fun e=>?_)
  ·simp only[Bool.and_eq_true,decide_eq_true_eq] at e;rw[if_pos e] at k;exact k.no hV rfl rfl
  rw[if_neg (by intro z;rw[decide_eq_true z.1,z.2] at e;cases e)] at k;dsimp only[bT];refine cD (bB (cP (aJ (aA rfl) hp T.aY T.gA rfl) (aA rfl))) (fun e=>?_) (fun e=>?_)
  ·rw[if_pos (of_decide_eq_true e)] at k;exact k.no hV rfl rfl
  rw[if_neg (of_decide_eq_false e)] at k;dsimp only[bT];refine cI (aJ (aA rfl) hp T.aY T.gA rfl) ?_;refine cN (aA rfl) (aA rfl) hp T.aY T.gA (by show 11 < 1000;decide) ?_;have c:Chg [L.p] H (upd H L.p (.ins n.dC dp (cC "gate" (.int o) (gD Z.aF L.pl)))):=Chg.upd (by simp) hp rfl;obtain⟨n1,n2,n3,n4,n5⟩:=hV.aF.rJ
  have hP:cK n (upd H L.p (.ins n.dC dp (cC "gate" (.int o) (gD Z.aF L.pl)))) L.p L.pl { Z.aF with gate:=o }:=
   ⟨⟨dp,aH⟩,hV.aF.cabins.chg c (by simpa using Ne.symm n1) lJ,hV.aF.parties.chg c (by simpa using Ne.symm n2) lK,hV.aF.persons.chg c (by simpa using Ne.symm n3) jX,c.keep _ _ hV.aF.aM (.inl (by simpa using Ne.symm n4)),c.keep _ _ hV.aF.bR (.inl (by simpa using Ne.symm n5))⟩
  have c':Chg L.aP H (upd H L.p (.ins n.dC dp (cC "gate" (.int o) (gD Z.aF L.pl)))):=c.cF fun b hb=>by rw[List.mem_singleton.mp hb];simp[bZ.aP]
  dsimp only;exact k.yes (hV.oU hP c' (fun a ha=>.inl ha) hV.pnd) rfl (c'.cF fun b hb=>pU hb) (fun a ha=>.inl ha) (aD (aA rfl) aL) (by show 1≤1000;decide) rfl
def pk(n:bL):Sp:=fun vs H Q _=>∃L Z,vs=[.ref L.v]∧bH n H L Z∧Z.aF.persons.length≤1000∧oS n H L (CS.sB Z) Q
theorem kz(T:Txt K mg n):bK P w K mg aT CX0 2 n.RK n.SF ["vessel"] (pk n):=by
 refine T.NR.ok f9 (fun vs H Q E h=>?_) (fun cdv A bF s H vs Q E hr h=>?_)
 ·obtain⟨L,Z,rfl,_⟩:=h;rfl
 ·obtain⟨L,Z,rfl,hV,hz,k⟩:=h;obtain⟨dv,hv⟩:=hV.obj;obtain⟨dp,hp⟩:=hV.aF.obj;refine⟨_,(aE (pst (i:=1) f9.nd (aI (pv 0) rfl))
   (aE (bS (bE cY (aI (pv 1) rfl) (aV rfl T.AN) (bD _)) (aK (aN (bJ (aB (aV rfl T.jW) aG)))) bG)
   (aE (eQ (pcl (Q7 T) hr T.X4 T.AZ (ac T) (aB (pv 1) aG)))
   (aK (aN (bJ (aB (aI (pv 1) rfl) aG))))))),?_⟩
  unfold CS.sB at k;refine cI (aJ (aA rfl) hv T.bO T.cE rfl) ?_;dsimp only;refine cD (bB (cP (aJ (aA rfl) hp T.aY T.fM rfl) aO)) (fun e=>?_) (fun e=>?_)
  ·rw[if_pos (of_decide_eq_true e)] at k;exact k.no hV rfl rfl
  rw[if_neg (of_decide_eq_false e)] at k;dsimp only[bT];refine cG (vs:=[.ref L.p]) (aD (aA rfl) aL) ⟨L.p,L.pl,Z.aF,rfl,hV.aF,hz,fun H1 m' nm hP c=>?_⟩;obtain⟨dp1,hp1⟩:=hP.obj;have c':Chg L.aP H H1:=c.cF fun b hb=>by rw[List.mem_singleton.mp hb];simp[bZ.aP]
  have hmem:∀a∈fG.fK { L.pl with m:=m' },a∈L.pl.fK∨H a=none:=fun a ha=>by
   unfold fG.fK at ha ⊢;simp only[List.mem_cons,List.not_mem_nil,or_false] at ha ⊢
   rcases ha with rfl |rfl |rfl |rfl |rfl
   ·exact .inl (.inl rfl)
   ·exact .inl (.inr (.inl rfl))
   ·exact .inl (.inr (.inr (.inl rfl)))
   ·exact .inl (.inr (.inr (.inr (.inl rfl))))
   ·exact .inr nm
  have hnd:fG.Nd { L.pl with m:=m' }:=by
   obtain⟨d1,d2,d3,d4,d5,d6,d7,d8,d9,d10⟩:=hV.pnd.ne;have isl:=hV.aF.isL;have ne:∀a∈L.pl.fK,m'≠a:=fun a ha q=>by
    obtain⟨xs,e2⟩:=isl a ha;rw[←q,nm] at e2;cases e2
   exact nd5 (Ne.symm d1) (Ne.symm d2) (Ne.symm d5) (Ne.symm d3) (Ne.symm d6) (Ne.symm d8) (ne _ (by simp[fG.fK])) (ne _ (by simp[fG.fK])) (ne _ (by simp[fG.fK])) (ne _ (by simp[fG.fK]))
  dsimp only;refine k.yes (hV.oU hP c' hmem hnd) rfl (c'.cF fun b hb=>pU hb) (fun a ha=>?_) (aD (aJ (aA rfl) hp1 T.aY T.fM rfl) aL) (by show 1≤1000;decide) rfl
  rcases all_pl ha with q |q
  ·exact .inl q
  ·rcases hmem a q with z |z
   ·exact .inl (pU (by unfold bZ.aP;exact List.mem_cons_of_mem _ z))
   ·exact .inr z
end
theorem jd{σ:L2.St}{H:Hp}{D:lB}{tl:TA}{vs:List V}(ha:EA tl σ H vs)(hz:vs.length≤1000)(q:∀r,H r=none→D.rt (.ref r) (upd H r (.lst vs))):GF (EU tl) D σ H:=ha _ ⟨Nat.le_trans hz (by decide),q⟩
theorem et_in3{K:PySem.W.Frag}{σ:L2.St}{H:Hp}{ta:TE}{tl:TA}{a x y z:Int}(h:EV ta σ H (.int a))(hl:EA tl σ H [.int x,.int y,.int z]):ET (jw (qW (tOp (rIn K false) ta (tTup tl)))) σ H (inV (.int a) [.int x,.int y,.int z]):=
 Hg (h _ (hl _ ⟨(by show 3≤sizeLine;decide),fun p np=>⟨p,_,rfl,.inr (SqT.of aH),rfl,rfl,_,rfl,rfl,aX.upd np⟩⟩))
theorem inV3(a x y z:Int):inV (.int a) [.int x,.int y,.int z]=true↔(a=x∨a=y∨a=z):=by
 unfold inV;simp only[List.any_cons,List.any_nil,Bool.or_false,Bool.or_eq_true];have e:∀i j:Int,eqV (.int i) (.int j)=true↔j=i:=fun i j=>by
  show(i==j)=true↔_;rw[beq_iff_eq];exact⟨fun h=>h.symm,fun h=>h.symm⟩
 rw[e,e,e]
def wS(Z:CS.cZ)(x:Int):CS.cZ×List Int:=if CS.cB Z≥Z.most then(Z,[-62]) else({ Z with aM:=Z.aM.set x.toNat 0,jK:=Z.jK+1 },[1,x])
def EC(Z:CS.cZ)(x:Int):CS.cZ×List Int:=if (Z.persons.getD x.toNat ⟨0,false⟩).ay=true∧Z.aM.getD (Z.parties.getD (Z.persons.getD x.toNat ⟨0,false⟩).party.toNat ⟨0,0,0⟩).first.toNat 0≠1 then(Z,[-33]) else({ Z with aM:=Z.aM.set x.toNat 1,iH:=Z.iH+1 },[0,x])
def va(n:bL)(H:Hp)(a:Addr)(L:fG)(x:CS.cZ×List Int)(Q:VK):Prop:=∀H' r,cK n H' a L x.1→H' r=some (.lst (x.2.map V.int))→Chg [a,L.s] H H'→H r=none→Q (.ref r) H'
section
variable{P:Program}{w:World}{K:PySem.W.Frag}{mg:Str→Option Value}{aT:Heap}{n:bL}
theorem cK.CA{H:Hp}{a d:Addr}{L:fG}{Z Z':CS.cZ}{fs:List (Str×V)}{st:List Int}(h:cK n H a L Z)(hnd:L.Nd)(ha:H a=some (.ins n.dC d (gD Z L)))(hf:fs=gD Z' L)(h1:Z'.cabins=Z.cabins)(h2:Z'.parties=Z.parties)(h3:Z'.persons=Z.persons)(h4:Z'.aM=st)(h5:Z'.bR=Z.bR):
  cK n (upd (upd H L.s (.lst (st.map V.int))) a (.ins n.dC d fs)) a L Z'∧Chg [a,L.s] H (upd (upd H L.s (.lst (st.map V.int))) a (.ins n.dC d fs)):=by
 obtain⟨n1,n2,n3,n4,n5⟩:=h.rJ;obtain⟨d1,d2,d3,d4,d5,d6,d7,d8,d9,d10⟩:=hnd.ne;have c1:Chg [a,L.s] H (upd H L.s (.lst (st.map V.int))):=Chg.upd (by simp) h.aM rfl;have c:Chg [a,L.s] H (upd (upd H L.s (.lst (st.map V.int))) a (.ins n.dC d fs)):=c1.trans (Chg.upd (by simp) (aZ n4 ha) rfl);refine⟨⟨⟨d,by rw[aH,hf]⟩,?_,?_,?_,?_,?_⟩,c⟩
 ·rw[h1];exact h.cabins.chg c (by simp only[List.mem_cons,List.not_mem_nil,or_false,not_or];exact⟨Ne.symm n1,d3⟩) lJ
 ·rw[h2];exact h.parties.chg c (by simp only[List.mem_cons,List.not_mem_nil,or_false,not_or];exact⟨Ne.symm n2,d6⟩) lK
 ·rw[h3];exact h.persons.chg c (by simp only[List.mem_cons,List.not_mem_nil,or_false,not_or];exact⟨Ne.symm n3,d8⟩) jX
 ·show(upd _ a _) L.s=_;rw[h4];exact aZ (Ne.symm n4) aH
 ·show(upd _ a _) L.m=_;rw[h5];exact c.keep _ _ h.bR (.inl (by simp only[List.mem_cons,List.not_mem_nil,or_false,not_or];exact⟨Ne.symm n5,Ne.symm d10⟩))
def M7(n:bL):Sp:=fun vs H Q _=>∃a L Z x,vs=[.ref a,.int x]∧cK n H a L Z∧L.Nd∧POk Z∧0≤x∧x < (Z.persons.length:Int)∧va n H a L (wS Z x) Q
theorem N7(T:Txt K mg n):bK P w K mg aT CX0 2 n.BD n.AF ["people","person"] (M7 n):=by
 refine T.BG.ok M9 (fun vs H Q E h=>?_) (fun cdv A bF s H vs Q E hr h=>?_)
 ·obtain⟨a,L,Z,x,rfl,_⟩:=h;rfl
 ·obtain⟨a,L,Z,x,rfl,hP,hnd,hok,h0,h1,k⟩:=h;obtain⟨da,ha⟩:=hP.obj;have hst:H L.s=some (.lst (Z.aM.map V.int)):=hP.aM;obtain⟨n1,n2,n3,n4,n5⟩:=hP.rJ;refine⟨_,(aE (bS (bE rD (pcl (mR T) hr T.oM T.jU (oH T) (aB (pv 0) aG)) (aI (pv 0) rfl) (bD _)) (aK (aN (bJ (aB (aV rfl T.uY) aG)))) bG)
   (aE (YM (aV rfl T.pD) (UG (aI (pv 0) rfl) (pv 1) DB))
   (aE (fT (pv 0) aQ mB)
   (aK (aN (bJ (aB aQ (aB (pv 1) aG)))))))),?_⟩
  unfold wS at k;refine cD (bB (bU (bI (aD (aA rfl) aL) ⟨a,L,Z,rfl,hP,rfl⟩) (aJ (aA rfl) ha T.aY T.jQ rfl))) (fun e=>?_) (fun e=>?_)
  ·rw[if_pos (of_decide_eq_true e)] at k;refine⟨(by show 1≤sizeLine;decide),fun r nr=>?_⟩;exact k _ r (hP.same (aX.upd nr)) aH (Chg.same (aX.upd nr) _) nr
  rw[if_neg (of_decide_eq_false e)] at k;dsimp only[bT];refine GP (k:=x.toNat) aO (aJ (aA rfl) ha T.aY T.dA rfl) (aA rfl) hst ?_ ?_
  ·have :x=((x.toNat:Nat):Int):=by omega
   rw[this];refine LJ ?_;rw[List.length_map,hok.sl];omega
  ·have em:(Z.aM.map V.int).set x.toNat (.int 0)=(Z.aM.set x.toNat 0).map V.int:=by rw[List.map_set]
   rw[em];refine iN (aA rfl) (aZ n4 ha) T.aY T.iE rfl aO (by show 11 < 1000;decide) ?_
   obtain⟨hP1,c1⟩:=hP.CA (Z':={ Z with aM:=Z.aM.set x.toNat 0,jK:=Z.jK+1 }) (fs:=cC "come_in" (.int (Z.jK+1)) (gD Z L)) (st:=Z.aM.set x.toNat 0) hnd ha rfl rfl rfl rfl rfl rfl
   dsimp only;refine jd (vs:=[.int 1,.int x]) (aD aO (aD (aA rfl) aL)) (by show 2≤1000;decide) fun r nr=>?_;exact k _ r (hP1.same (aX.upd nr)) aH (c1.trans (Chg.same (aX.upd nr) _)) (c1.dom _ nr)
def bn(n:bL):Sp:=fun vs H Q _=>∃a L Z x,vs=[.ref a,.int x]∧cK n H a L Z∧L.Nd∧POk Z∧0≤x∧x < (Z.persons.length:Int)∧va n H a L (EC Z x) Q
theorem fe(T:Txt K mg n):bK P w K mg aT CX0 2 n.JC n.ID ["people","person"] (bn n):=by
 refine T.HU.ok dd (fun vs H Q E h=>?_) (fun cdv A bF s H vs Q E hr h=>?_)
 ·obtain⟨a,L,Z,x,rfl,_⟩:=h;rfl
 ·obtain⟨a,L,Z,x,rfl,hP,hnd,hok,h0,h1,k⟩:=h;obtain⟨da,ha⟩:=hP.obj;have hst:H L.s=some (.lst (Z.aM.map V.int)):=hP.aM;obtain⟨n1,n2,n3,n4,n5⟩:=hP.rJ;obtain⟨as,b,db,hr1,hb,hb2⟩:=hP.persons.atI (d:=⟨0,false⟩) h0 h1;have hpp:=hok.per _ (getD_mem (d:=⟨0,false⟩) (show x.toNat < Z.persons.length by omega));have hff:=hok.first _ (getD_mem (d:=⟨0,0,0⟩) (show(Z.persons.getD x.toNat ⟨0,false⟩).party.toNat < Z.parties.length by omega));refine⟨_,(aE (bS (PW.pt (oQ (dW (aI (cT bV (aI (pv 0) rfl) (pv 1) (fun _ _=>rfl)) rfl)) (oF (bE xu (cT bV (aI (pv 0) rfl) (pcl (ZY T) hr T.A6 T.uB (n0 T) (aB (pv 0) (aB (pv 1) aG))) (fun _ _=>rfl)) (aV rfl T.nO) (bD _))))) (aK (aN (bJ (aB (aV rfl T.pX) aG)))) bG)
   (aE (YM (aV rfl T.nO) (UG (aI (pv 0) rfl) (pv 1) DB))
   (aE (fT (pv 0) aQ mB)
   (aK (aN (bJ (aB aQ (aB (pv 1) aG)))))))),?_⟩
  unfold EC at k;refine cD (oR (dX (aJ (cS (aJ (aA rfl) ha T.aY T.dP rfl) (aA rfl) (SqL.of hr1) hb) hb2 T.zD T.rA rfl)) fun _=>bB (uk (cS (aJ (aA rfl) ha T.aY T.dA rfl) (bI (aD (aA rfl) (aD (aA rfl) aL)) ⟨a,L,Z,x,rfl,hP,hok,h0,h1,rfl⟩) (SqL.of hst) (qC hff.1 (by rw[hok.sl];exact hff.2))) aO)) (fun e=>?_) (fun e=>?_)
  ·rw[Bool.and_eq_true] at e;have e2:¬Z.aM.getD (Z.parties.getD (Z.persons.getD x.toNat ⟨0,false⟩).party.toNat ⟨0,0,0⟩).first.toNat 0=1:=by simpa using e.2
   rw[if_pos ⟨e.1,e2⟩] at k;refine jd (vs:=[.int (-33)]) (aD aO aL) (by show 1≤1000;decide) fun r nr=>?_;exact k _ r (hP.same (aX.upd nr)) aH (Chg.same (aX.upd nr) _) nr
  rw[if_neg (by
   intro z;rw[z.1,decide_eq_false z.2] at e;cases e)] at k
  dsimp only[bT];refine GP (k:=x.toNat) aO (aJ (aA rfl) ha T.aY T.dA rfl) (aA rfl) hst ?_ ?_
  ·have :x=((x.toNat:Nat):Int):=by omega
   rw[this];refine LJ ?_;rw[List.length_map,hok.sl];omega
  ·have em:(Z.aM.map V.int).set x.toNat (.int 1)=(Z.aM.set x.toNat 1).map V.int:=by rw[List.map_set]
   rw[em];refine iN (aA rfl) (aZ n4 ha) T.aY T.gZ rfl aO (by show 11 < 1000;decide) ?_
   obtain⟨hP1,c1⟩:=hP.CA (Z':={ Z with aM:=Z.aM.set x.toNat 1,iH:=Z.iH+1 }) (fs:=cC "gone_out" (.int (Z.iH+1)) (gD Z L)) (st:=Z.aM.set x.toNat 1) hnd ha rfl rfl rfl rfl rfl rfl
   dsimp only;refine jd (vs:=[.int 0,.int x]) (aD aO (aD (aA rfl) aL)) (by show 2≤1000;decide) fun r nr=>?_;exact k _ r (hP1.same (aX.upd nr)) aH (c1.trans (Chg.same (aX.upd nr) _)) (c1.dom _ nr)
theorem zk(Z:CS.aU)(c:Int):CS.tD Z c=if Z.aF.gate=0 then(Z,[-16]) else if 100000=Z.aF.iH∨100000=Z.aF.jK∨100000=Z.aF.eJ then(Z,[-28]) else if CS.fN Z.aF c=false then({ Z with aF:={ Z.aF with eJ:=Z.aF.eJ+1 } },[2,0])
  else if Z.aF.aM.getD c.toNat 0=1 then({ Z with aF:=(wS Z.aF c).1 },(wS Z.aF c).2) else({ Z with aF:=(EC Z.aF c).1 },(EC Z.aF c).2):=by
 unfold CS.tD wS EC;dsimp only
 repeat' split
 all_goals first |rfl |contradiction
def xg(n:bL):Sp:=fun vs H Q _=>∃L Z c,vs=[.ref L.v,.int c]∧bH n H L Z∧POk Z.aF∧0≤c∧oS n H L (CS.tD Z c) Q
theorem sx(T:Txt K mg n):bK P w K mg aT CX0 3 n.WB n.YO ["vessel","card"] (xg n):=by
 refine T.YB.ok F4 (fun vs H Q E h=>?_) (fun cdv A bF s H vs Q E hr h=>?_)
 ·obtain⟨L,Z,c,rfl,_⟩:=h;rfl
 ·obtain⟨L,Z,c,rfl,hV,hok,h0,k⟩:=h;obtain⟨dv,hv⟩:=hV.obj;obtain⟨dp,hp⟩:=hV.aF.obj;have hst:H L.pl.s=some (.lst (Z.aF.aM.map V.int)):=hV.aF.aM;refine⟨_,(aE (pst (i:=2) F4.nd (aI (pv 0) rfl))
   (aE (bS (bE cY (aI (pv 2) rfl) aQ (bD _)) (aK (aN (bJ (aB (aV rfl T.jE) aG)))) bG)
   (aE (bS (Gk (bE Ak (aV rfl T.FR) (Cz (aB (aI (pv 2) rfl) (aB (aI (pv 2) rfl) (aB (aI (pv 2) rfl) aG)))) (by with_unfolding_all rfl))) (aK (aN (bJ (aB (aV rfl T.jW) aG)))) bG)
   (aE (bS (rR (dW (pcl (mP T) hr T.nW T.jC (nZ T) (aB (pv 2) (aB (pv 1) aG))))) (aE (fT (pv 2) aQ mB)
   (aK (aN (bJ (aB aQ (aB aQ aG)))))) bG)
   (aE (bS (bE cY (cT bV (aI (pv 2) rfl) (pv 1) (fun _ _=>rfl)) (aV rfl T.nO) (bD _)) (aK (aN (pcl (N7 T) hr T.Z7 T.BG (ai T) (aB (pv 2) (aB (pv 1) aG))))) bG)
   (aK (aN (pcl (fe T) hr T.nv T.HU (mx T) (aB (pv 2) (aB (pv 1) aG)))))))))),?_⟩
  rw[zk] at k;refine cI (aJ (aA rfl) hv T.bO T.cE rfl) ?_;dsimp only;refine cD (bB (cP (aJ (aA rfl) hp T.aY T.gA rfl) aO)) (fun e=>?_) (fun e=>?_)
  ·rw[if_pos (of_decide_eq_true e)] at k;exact k.no hV rfl rfl
  rw[if_neg (of_decide_eq_false e)] at k;dsimp only[bT];refine cD (et_in3 aO (aD (aJ (aA rfl) hp T.aY T.gZ rfl) (aD (aJ (aA rfl) hp T.aY T.iE rfl) (aD (aJ (aA rfl) hp T.aY T.fY rfl) aL)))) (fun e=>?_) (fun e=>?_)
  ·rw[if_pos ((inV3 _ _ _ _).1 e)] at k;exact k.no hV rfl rfl
  rw[if_neg (fun z=>by rw[(inV3 _ _ _ _).2 z] at e;cases e)] at k;dsimp only[bT];refine cD (rU (dX (bI (aD (aA rfl) (aD (aA rfl) aL)) ⟨L.p,L.pl,Z.aF,c,rfl,hV.aF,hok,h0,rfl⟩))) (fun e=>?_) (fun e=>?_)
  ·have e':CS.fN Z.aF c=false:=by simpa using e
   rw[if_pos e'] at k;refine iN (aA rfl) hp T.aY T.fY rfl aO (by show 11 < 1000;decide) ?_;have c1:Chg [L.p] H (upd H L.p (.ins n.dC dp (cC "not_counted" (.int (Z.aF.eJ+1)) (gD Z.aF L.pl)))):=Chg.upd (by simp) hp rfl;obtain⟨n1,n2,n3,n4,n5⟩:=hV.aF.rJ
   have hP:cK n (upd H L.p (.ins n.dC dp (cC "not_counted" (.int (Z.aF.eJ+1)) (gD Z.aF L.pl)))) L.p L.pl { Z.aF with eJ:=Z.aF.eJ+1 }:=
    ⟨⟨dp,aH⟩,hV.aF.cabins.chg c1 (by simpa using Ne.symm n1) lJ,hV.aF.parties.chg c1 (by simpa using Ne.symm n2) lK,hV.aF.persons.chg c1 (by simpa using Ne.symm n3) jX,c1.keep _ _ hV.aF.aM (.inl (by simpa using Ne.symm n4)),c1.keep _ _ hV.aF.bR (.inl (by simpa using Ne.symm n5))⟩
   have c':Chg L.aP H (upd H L.p (.ins n.dC dp (cC "not_counted" (.int (Z.aF.eJ+1)) (gD Z.aF L.pl)))):=c1.cF fun b hb=>by rw[List.mem_singleton.mp hb];simp[bZ.aP]
   dsimp only;exact k.yes (hV.oU hP c' (fun a ha=>.inl ha) hV.pnd) rfl (c'.cF fun b hb=>pU hb) (fun a ha=>.inl ha) (aD aO (aD aO aL)) (by show 2≤1000;decide) rfl
  have e':CS.fN Z.aF c=true:=by simpa using e
  rw[if_neg (by rw[e'];decide)] at k;have hlt:c < (Z.aF.persons.length:Int):=by
   unfold CS.fN at e';rw[Bool.and_eq_true] at e';exact of_decide_eq_true e'.1
  have kp:∀(x:CS.cZ×List Int),oS n H L ({ Z with aF:=x.1 },x.2) Q→va n H L.p L.pl x Q:=fun x kk H' r hP hr c1 nr=>by
   have c':Chg L.aP H H':=c1.cF fun b hb=>by
    simp only[List.mem_cons,List.not_mem_nil,or_false] at hb
    rcases hb with rfl |rfl
    ·simp[bZ.aP]
    ·simp[bZ.aP,fG.fK]
   exact kk H' L r rfl (hV.oU hP c' (fun a ha=>.inl ha) hV.pnd) hr (c'.cF fun b hb=>pU hb) (fun a ha=>.inl ha) nr
  dsimp only[bT];refine cD (bB (cP (cS (aJ (aA rfl) hp T.aY T.dA rfl) (aA rfl) (SqL.of hst) (qC h0 (by rw[hok.sl];exact hlt))) aO)) (fun e2=>?_) (fun e2=>?_)
  ·rw[if_pos (of_decide_eq_true e2)] at k;exact cG (vs:=[.ref L.p,.int c]) (aD (aA rfl) (aD (aA rfl) aL)) ⟨L.p,L.pl,Z.aF,c,rfl,hV.aF,hV.pnd,hok,h0,hlt,kp _ k⟩
  ·rw[if_neg (of_decide_eq_false e2)] at k;dsimp only[bT];exact cG (vs:=[.ref L.p,.int c]) (aD (aA rfl) (aD (aA rfl) aL)) ⟨L.p,L.pl,Z.aF,c,rfl,hV.aF,hV.pnd,hok,h0,hlt,kp _ k⟩
def kl(n:bL):Sp:=fun vs H Q _=>∃L Z d p r b f,vs=[.ref L.v,.int d,.int p,.int r,.int b,.int f]∧bH n H L Z∧Z.aF.cabins.length≤1000∧oS n H L (CS.sE Z d p r b f) Q
theorem om(T:Txt K mg n):bK P w K mg aT CX0 3 n.MN n.SE ["vessel","deck","place","rank","berths","flat"] (kl n):=by
 refine T.NM.ok j6 (fun vs H Q E h=>?_) (fun cdv A bF s H vs Q E hr h=>?_)
 ·obtain⟨L,Z,a,b,c,d,e,rfl,_⟩:=h;rfl
 ·obtain⟨L,Z,d,p,r,b,f,rfl,hV,hz,k⟩:=h;obtain⟨dv,hv⟩:=hV.obj;obtain⟨dp,hp⟩:=hV.aF.obj;obtain⟨as,hl,hall⟩:=id hV.aF.cabins;have hlen:((as.map V.ref).length:Int)=((Z.aF.cabins.length:Nat):Int):=by rw[List.length_map,hall.1]
  refine⟨_,(aE (pst (i:=6) j6.nd (aI (aI (pv 0) rfl) rfl))
   (aE (bS (PW.pt (mI (bE fW (pv 1) aQ (bD _)) (mI (bE fW (pv 2) aQ (bD _)) (mI (bE fW (pv 3) aQ (bD _)) (mI (dW (pcl (iY T) hr T.kE T.iS (kF T) (aB (pv 4) (aB aQ (aB aQ aG))))) (rL (bE fW (pv 5) aQ (bD _)))))))) (aK (aN (bJ (aB (aV rfl T.eC) aG)))) bG)
   (aE (bS (dW (pcl (oa T) hr T.vg T.RW (ym T) (aB (pv 6) (aB (pv 1) (aB (pv 2) aG))))) (aK (aN (bJ (aB (aV rfl T.eC) aG)))) bG)
   (aE (bS (bE cY (bW cM (by rfl) T.eE PySem.boot_len (aB (pv 6) aG)) (aV rfl T.BC) (bD _)) (aK (aN (bJ (aB (aV rfl T.jW) aG)))) bG)
   (aE (eQ (nX PySem.F.plainAttrs_list PySem.F.slot_list_append PySem.F.type_list_append iQ (pv 6) (aB (hJ T.Dz (Z4 T) (hr.cF (by decide)) rfl T.Ic (ip T) .nil gK (aB (pv 1) (aB (pv 2) (aB (pv 3) (aB (pv 4) (aB (pv 5) aG)))))) aG)))
   (aK (aN (bJ (aB (dG mX (bW cM (by rfl) T.eE PySem.boot_len (aB (pv 6) aG)) aQ) aG))))))))),?_⟩
  unfold CS.sE at k;refine cI (aJ (aJ (aA rfl) hv T.bO T.cE rfl) hp T.aY T.eX rfl) ?_;dsimp only;refine cD (lF (bB (bU (aA rfl) aO)) fun _=>lF (bB (bU (aA rfl) aO)) fun _=>lF (bB (bU (aA rfl) aO)) fun _=>lF (dX (bI (aD (aA rfl) (aD aO (aD aO aL))) ⟨_,_,_,rfl,rfl⟩)) fun _=>bB (bU (aA rfl) aO)) (fun e=>?_) (fun e=>?_)
  ·simp only[Bool.or_eq_true,decide_eq_true_eq] at e;rw[if_pos e] at k;exact k.no hV rfl rfl
  rw[if_neg (by
   intro z
   rcases z with z |z |z |z |z
   ·rw[decide_eq_true z] at e;simp at e
   ·rw[decide_eq_true z] at e;simp at e
   ·rw[decide_eq_true z] at e;simp at e
   ·rw[z] at e;simp at e
   ·rw[decide_eq_true z] at e;simp at e)] at k
  dsimp only[bT];refine cD (dX (bI (aD (aA rfl) (aD (aA rfl) (aD (aA rfl) aL))) ⟨L.pl.c,Z.aF.cabins,d,p,rfl,hV.aF.cabins,hz,rfl⟩)) (fun e=>?_) (fun e=>?_)
  ·rw[if_pos e] at k;exact k.no hV rfl rfl
  rw[if_neg (by rw[e];decide)] at k;dsimp only[bT];refine cD (qZ (bB (cP (dR (eT (aA rfl) (SqL.of hl)) (congrArg V.int hlen)) aO)) (MC (m:=12))) (fun e=>?_) (fun e=>?_)
  ·rw[if_pos (of_decide_eq_true e)] at k;exact k.no hV rfl rfl
  rw[if_neg (of_decide_eq_false e)] at k;dsimp only[bT];refine sC (vs:=[.int d,.int p,.int r,.int b,.int f]) (aA rfl) hl (aD (aA rfl) (aD (aA rfl) (aD (aA rfl) (aD (aA rfl) (aD (aA rfl) aL))))) rfl ?_ fun y dy ny ndy hne=>?_
  ·rw[List.length_map,hall.1];exact Nat.lt_of_le_of_lt hz (by decide)
  ·have s1:aX H (mkI H y dy n.iR (LF [.int d,.int p,.int r,.int b,.int f])):=aX.mkI ny ndy;have nyl:y≠L.pl.c:=fun q=>by rw[q,hl] at ny;cases ny
   obtain⟨n1,n2,n3,n4,n5⟩:=hV.aF.rJ;obtain⟨d1,d2,d3,d4,d5,d6,d7,d8,d9,d10⟩:=hV.pnd.ne;have c:Chg [L.pl.c] H (upd (mkI H y dy n.iR (LF [.int d,.int p,.int r,.int b,.int f])) L.pl.c (.lst (as.map V.ref++[.ref y]))):=(Chg.same s1 _).trans (Chg.upd (by simp) (s1 _ _ hl) rfl)
   have hP:cK n (upd (mkI H y dy n.iR (LF [.int d,.int p,.int r,.int b,.int f])) L.pl.c (.lst (as.map V.ref++[.ref y]))) L.p L.pl { Z.aF with cabins:=Z.aF.cabins++[⟨d,p,r,b,f⟩] }:=by
    refine⟨hV.aF.obj.chg c (.inl (by simpa using n1)),⟨as++[y],?_,?_⟩,hV.aF.parties.chg c (by simpa using Ne.symm d1) lK,hV.aF.persons.chg c (by simpa using Ne.symm d2) jX,c.keep _ _ hV.aF.aM (.inl (by simpa using Ne.symm d3)),c.keep _ _ hV.aF.bR (.inl (by simpa using Ne.symm d4))⟩
    ·rw[aH,List.map_append];rfl
    ·exact(hall.cF fun q x z=>z.chg c (.inr (lJ x))).tU ⟨dy,aZ nyl aH⟩
   have c':Chg L.aP H (upd (mkI H y dy n.iR (LF [.int d,.int p,.int r,.int b,.int f])) L.pl.c (.lst (as.map V.ref++[.ref y]))):=c.cF fun q hq=>by rw[List.mem_singleton.mp hq];simp[bZ.aP,fG.fK]
   dsimp only;refine k.yes (hV.oU hP c' (fun a ha=>.inl ha) hV.pnd) rfl (c'.cF fun q hq=>pU hq) (fun a ha=>.inl ha) (aD (dR (bU (eT (aA rfl) (SqL.of aH)) aO) ?_) aL) (by show 1≤1000;decide) rfl;show V.int _=V.int _;congr 1;rw[List.length_append,List.length_map,hall.1];show((Z.aF.cabins.length+1:Nat):Int) - 1=((Z.aF.cabins.length:Nat):Int);omega
def qe(n:bL):Sp:=fun vs H Q _=>∃L Z m c r f,vs=[.ref L.v,.int m,.int c,.int r,.int f]∧bH n H L Z∧POk Z.aF∧oS n H L (CS.sO Z m c r f) Q
theorem ox(T:Txt K mg n):bK P w K mg aT CX0 6 n.ME n.OQ ["vessel","many","children","rank","flat"] (qe n):=by
 refine T.MV.ok yS (fun vs H Q E h=>?_) (fun cdv A bF s H vs Q E hr h=>?_)
 ·obtain⟨L,Z,a,b,c,d,rfl,_⟩:=h;rfl
 ·obtain⟨L,Z,m,c,r,f,rfl,hV,hok,k⟩:=h;obtain⟨dv,hv⟩:=hV.obj;obtain⟨dp,hp⟩:=hV.aF.obj;obtain⟨ps,hp1,hpall⟩:=id hV.aF.parties;obtain⟨rs,hr1,hrall⟩:=id hV.aF.persons;have hplen:((ps.map V.ref).length:Int)=((Z.aF.parties.length:Nat):Int):=by rw[List.length_map,hpall.1]
  have hrlen:((rs.map V.ref).length:Int)=((Z.aF.persons.length:Nat):Int):=by rw[List.length_map,hrall.1]
  refine⟨_,(aE (pst (i:=5) yS.nd (aI (pv 0) rfl))
   (aE (bS (PW.pt (mI (dW (pcl (iY T) hr T.kE T.iS (kF T) (aB (pv 1) (aB aQ (aB aQ aG))))) (mI (bE rD (pv 2) (pv 1) (bD _)) (mI (bE fW (pv 3) aQ (bD _)) (rL (bE fW (pv 4) aQ (bD _))))))) (aK (aN (bJ (aB (aV rfl T.eC) aG)))) bG)
   (aE (bS (dW (pcl (kC T) hr T.lN T.iW (lI T) (aB (aI (pv 0) rfl) aG))) (aK (aN (bJ (aB (aV rfl T.jE) aG)))) bG)
   (aE (bS (PW.pt (mI (bE cY (bW cM (by rfl) T.eE PySem.boot_len (aB (aI (pv 5) rfl) aG)) (aV rfl T.xS) (bD _)) (rL (bE fW (dG gJ (bW cM (by rfl) T.eE PySem.boot_len (aB (aI (pv 5) rfl) aG)) (pv 1)) (aV rfl T.yL) (bD _))))) (aK (aN (bJ (aB (aV rfl T.jW) aG)))) bG)
   (aE (bS (bE fW (dG gJ (pcl (mR T) hr T.oM T.jU (oH T) (aB (pv 5) aG)) (pv 1)) (aI (pv 5) rfl) (bD _)) (aK (aN (bJ (aB (aV rfl T.uY) aG)))) bG)
   (aE (pst (i:=6) yS.nd (pcl (X2 T) hr T.bo T.FG (eu T) (aB (pv 5) (aB (pv 1) (aB (pv 3) (aB (pv 4) aG))))))
   (aE (bS (bE cY (pv 6) (aV rfl T.vM) (bD _)) (aK (aN (bJ (aB (aV rfl T.pX) aG)))) bG)
   (aE (pst (i:=7) yS.nd (bW cM (by rfl) T.eE PySem.boot_len (aB (aI (pv 5) rfl) aG)))
   (aK (aN (bJ (aB (pcl (il T) hr T.kf T.JI (mq T) (aB (pv 5) (aB (pv 1) (aB (pv 2) (aB (pv 6) aG))))) (aB (pv 6) (aB (pv 7) (aB (pv 7) aG))))))))))))))),?_⟩
  unfold CS.sO at k;refine cI (aJ (aA rfl) hv T.bO T.cE rfl) ?_;dsimp only;refine cD (lF (dX (bI (aD (aA rfl) (aD aO (aD aO aL))) ⟨_,_,_,rfl,rfl⟩)) fun _=>lF (bB (bU (aA rfl) (aA rfl))) fun _=>lF (bB (bU (aA rfl) aO)) fun _=>bB (bU (aA rfl) aO)) (fun e=>?_) (fun e=>?_)
  ·simp only[Bool.or_eq_true,decide_eq_true_eq] at e;rw[if_pos e] at k;exact k.no hV rfl rfl
  have hm:1≤m∧m≤6:=by
   have e1:CS.cJ m 1 6=false:=by
    cases q:CS.cJ m 1 6 with
    |false=>rfl
    |true=>rw[q] at e;simp at e
   unfold CS.cJ at e1;simp only[Bool.or_eq_false_iff,decide_eq_false_iff_not] at e1;omega
  rw[if_neg (by
   intro z
   rcases z with z |z |z |z
   ·rw[z] at e;simp at e
   ·rw[decide_eq_true z] at e;simp at e
   ·rw[decide_eq_true z] at e;simp at e
   ·rw[decide_eq_true z] at e;simp at e)] at k
  dsimp only[bT];refine cD (dX (bI (aD (aJ (aA rfl) hv T.bO T.dF rfl) aL) ⟨L.w,L.wl,Z.way,rfl,hV.way,rfl⟩)) (fun e2=>?_) (fun e2=>?_)
  ·rw[if_pos e2] at k;exact k.no hV rfl rfl
  rw[if_neg (by rw[e2];decide)] at k;dsimp only[bT];refine cD (lF (qZ (bB (cP (dR (eT (aJ (aA rfl) hp T.aY T.dL rfl) (SqL.of hp1)) (congrArg V.int hplen)) aO)) (MC (m:=8))) fun _=>bB (bU (bU (dR (eT (aJ (aA rfl) hp T.aY T.dP rfl) (SqL.of hr1)) (congrArg V.int hrlen)) (aA rfl)) aO)) (fun e3=>?_) (fun e3=>?_)
  ·simp only[Bool.or_eq_true,decide_eq_true_eq] at e3;rw[if_pos e3] at k;exact k.no hV rfl rfl
  rw[if_neg (by
   intro z
   rcases z with z |z
   ·rw[decide_eq_true z] at e3;simp at e3
   ·rw[decide_eq_true z] at e3;simp at e3)] at k
  dsimp only[bT];refine cD (bB (bU (bU (bI (aD (aA rfl) aL) ⟨L.p,L.pl,Z.aF,rfl,hV.aF,rfl⟩) (aA rfl)) (aJ (aA rfl) hp T.aY T.jQ rfl))) (fun e4=>?_) (fun e4=>?_)
  ·rw[if_pos (of_decide_eq_true e4)] at k;exact k.no hV rfl rfl
  rw[if_neg (of_decide_eq_false e4)] at k;dsimp only[bT];refine cI (bI (aD (aA rfl) (aD (aA rfl) (aD (aA rfl) (aD (aA rfl) aL)))) ⟨L.p,L.pl,Z.aF,m,r,f,rfl,hV.aF,hok,rfl⟩) ?_
  cases hb:CS.uZ Z.aF m r f with
  |none=>
   rw[hb] at k;dsimp only at k ⊢;refine yi (qZ (bB (cP (aA rfl) aO)) (decide_eq_true rfl)) ?_;exact k.no hV rfl rfl
  |some j=>
   rw[hb] at k;dsimp only at k ⊢;refine s_ifF (qZ (bB (cP (aA rfl) aO)) (decide_eq_false (show ¬((j:Nat):Int)= -1 by omega))) ?_;dsimp only[bT];refine cI (dR (eT (aJ (aA rfl) hp T.aY T.dP rfl) (SqL.of hr1)) (congrArg V.int hrlen)) ?_;dsimp only;have hmn:m=((m.toNat:Nat):Int):=by omega
   refine cG (vs:=[.ref L.p,.int ((m.toNat:Nat):Int),.int c,.int ((j:Nat):Int)]) (aD (aA rfl) (aD (dR (aA rfl) (congrArg V.int hmn)) (aD (aA rfl) (aD (aA rfl) aL)))) ⟨L.p,L.pl,Z.aF,m.toNat,c,((j:Nat):Int),rfl,hV.aF,hV.pnd,hok,by omega,fun H1 hP c1=>?_⟩;have c':Chg L.aP H H1:=c1.cF fun q hq=>by
    simp only[List.mem_cons,List.not_mem_nil,or_false] at hq
    rcases hq with rfl |rfl |rfl |rfl <;> simp[bZ.aP,fG.fK]
   refine(aD (aA rfl) (aD (aA rfl) (aD (aA rfl) aL)):EA (dD (fZ 6) (dD (fZ 7) (dD (fZ 7) eU))) [some (.ref L.v),some (.int m),some (.int c),some (.int r),some (.int f),some (.ref L.p),some (.int ((j:Nat):Int)),some (.int ((Z.aF.persons.length:Nat):Int))] H1 [.int ((j:Nat):Int),.int ((Z.aF.persons.length:Nat):Int),.int ((Z.aF.persons.length:Nat):Int)]) _ ⟨(by show 4≤sizeLine;decide),fun q nq=>?_⟩;exact k _ _ q rfl ((hV.oU hP c' (fun a ha=>.inl ha) hV.pnd).same (aX.upd nq)) aH ((c'.cF fun q hq=>pU hq).trans (Chg.same (aX.upd nq) _)) (fun a ha=>.inl ha) (c'.dom _ nq)
theorem pb{σ:L2.St}{H:Hp}{to ta:TE}{l:Addr}{xs:List V}{D:lB}(ho:EV to σ H (.ref l))(hl:H l=some (.lst xs))
  (h:ta σ H fun y H1=>∃l2 xs2 y2,V.ref l=.ref l2∧[y]=[y2]∧H1 l2=some (.lst xs2)∧xs2.length < sizeLine∧D.nx σ (upd H1 l2 (.lst (xs2++[y2])))):
  BZ (tBM K "list" CK to (dD ta eU)) D σ H:=ho _ ⟨.inl ⟨rfl,xs,SqL.of hl⟩,h⟩
def ZO(S:CS.gC)(G:CS.Good)(i:Int):Bool:=(decide (CS.uC S+i > S.room)||decide (G.loaded+i > 1000000000))||decide (CS.oT S+i > 2000000000)
def ab(n:bL):List V→Hp→V→Prop:=fun vs H v=>∃s l gs S g gl G i,vs=[.ref s,.ref g,.int i]∧gI n H s l gs S∧sD S∧fL n H g gl G∧v=.bl (ZO S G i)
theorem M2(T:Txt K mg n):bK P w K mg aT CX0 3 n.zZ n.AH ["stores","good","n"] (spP (ab n)):=by
 refine bK.pure (T.AM.ok P6 (fun vs H Q E h=>?_) (fun cdv A bF s H vs Q E hr h=>?_))
 ·obtain⟨v,⟨s,l,gs,S,g,gl,G,i,rfl,_⟩,_⟩:=h;rfl
 ·obtain⟨v,⟨st,l,gs,S,g,gl,G,i,rfl,hS,hf,hG,rfl⟩,k⟩:=h;obtain⟨ds,hs⟩:=hS.obj;obtain⟨dg,hg⟩:=hG.obj;refine⟨_,(aE (bS (PW.pt (mI (bE fW (dG gJ (pcl (B7 T) hr T.O5 T.yM (N0 T) (aB (pv 0) aG)) (pv 2)) (aI (pv 0) rfl) (bD _)) (rL (bE fW (dG gJ (aI (pv 1) rfl) (pv 2)) (aV rfl T.zV) (bD _))))) (aK (aN pe_bl)) bG)
   (aK (aN (gM fW (dG gJ (pcl (FQ T) hr T.HD T.rF (GI T) (aB (pv 0) aG)) (pv 2)) (aV rfl T.pQ) (bD _))))),?_⟩
  unfold ZO at k;refine cD (lF (bB (bU (bU (bI (aD (aA rfl) aL) ⟨st,l,gs,S,rfl,hS,hf,rfl⟩) (aA rfl)) (aJ (aA rfl) hs T.gF T.oP rfl))) fun _=>bB (bU (bU (aJ (aA rfl) hg T.dE T.iT rfl) (aA rfl)) aO)) (fun e=>?_) (fun e=>?_)
  ·have:=k H aX.rfl';rw[show(decide (CS.uC S+i > S.room)||decide (G.loaded+i > 1000000000))=true from e,Bool.true_or] at this;exact dO aO this
  ·dsimp only[bT];have:=k H aX.rfl';rw[show(decide (CS.uC S+i > S.room)||decide (G.loaded+i > 1000000000))=false from e,Bool.false_or] at this;exact dO (bU (bU (bI (aD (aA rfl) aL) ⟨st,l,gs,S,rfl,hS,hf,rfl⟩) (aA rfl)) aO) this
def vb(n:bL):Sp:=fun vs H Q _=>∃L Z a b,vs=[.ref L.v,.int a,.int b]∧bH n H L Z∧Z.stores.goods.length≤1000∧oS n H L (CS.wE Z a b) Q
theorem yt(T:Txt K mg n):bK P w K mg aT CX0 3 n.UH n.XQ ["vessel","per","life"] (vb n):=by
 refine T.YW.ok L6 (fun vs H Q E h=>?_) (fun cdv A bF s H vs Q E hr h=>?_)
 ·obtain⟨L,Z,a,b,rfl,_⟩:=h;rfl
 ·obtain⟨L,Z,a,b,rfl,hV,hz,k⟩:=h;obtain⟨dv,hv⟩:=hV.obj;obtain⟨ds,hs⟩:=hV.stores.obj;have hl:=hV.stores.lst;have hall:=hV.stores.goods;have hlen:(((L.gs.map fun p=>V.ref p.1).length:Nat):Int)=((Z.stores.goods.length:Nat):Int):=by rw[List.length_map,hall.1]
  refine⟨_,(aE (pst (i:=3) L6.nd (aI (aI (pv 0) rfl) rfl))
   (aE (bS (PW.pt (mI (dW (pcl (iY T) hr T.kE T.iS (kF T) (aB (pv 1) (aB aQ (aB aQ aG))))) (rL (dW (pcl (iY T) hr T.kE T.iS (kF T) (aB (pv 2) (aB aQ (aB aQ aG)))))))) (aK (aN (bJ (aB (aV rfl T.eC) aG)))) bG)
   (aE (bS (bE cY (bW cM (by rfl) T.eE PySem.boot_len (aB (pv 3) aG)) (aV rfl T.EZ) (bD _)) (aK (aN (bJ (aB (aV rfl T.jW) aG)))) bG)
   (aE (eQ (nX PySem.F.plainAttrs_list PySem.F.slot_list_append PySem.F.type_list_append iQ (pv 3) (aB (hJ T.rl (VU T) (hr.cF (by decide)) rfl T.Cp (l7 T) .nil gK (aB (pv 1) (aB (pv 2) aG))) aG)))
   (aK (aN (bJ (aB (dG mX (bW cM (by rfl) T.eE PySem.boot_len (aB (pv 3) aG)) aQ) aG)))))))),?_⟩
  unfold CS.wE at k;refine cI (aJ (aJ (aA rfl) hv T.bO T.eB rfl) hs T.gF T.eA rfl) ?_;dsimp only;refine cD (lF (dX (bI (aD (aA rfl) (aD aO (aD aO aL))) ⟨_,_,_,rfl,rfl⟩)) fun _=>dX (bI (aD (aA rfl) (aD aO (aD aO aL))) ⟨_,_,_,rfl,rfl⟩)) (fun e=>?_) (fun e=>?_)
  ·simp only[Bool.or_eq_true] at e;rw[if_pos e] at k;exact k.no hV rfl rfl
  rw[if_neg (by
   intro z
   rcases z with z |z
   ·rw[z] at e;simp at e
   ·rw[z] at e;simp at e)] at k
  dsimp only[bT];refine cD (qZ (bB (cP (dR (eT (aA rfl) (SqL.of hl)) (congrArg V.int hlen)) aO)) (MC (m:=6))) (fun e=>?_) (fun e=>?_)
  ·rw[if_pos (of_decide_eq_true e)] at k;exact k.no hV rfl rfl
  rw[if_neg (of_decide_eq_false e)] at k;dsimp only[bT];have happ:∀(D:lB) (σ:L2.St) (q:∀y l1 H1,H y=none→H l1=none→aX H H1→fL n H1 y l1 ⟨a,b,[],0,0,0,0⟩→D.nx σ (upd H1 L.gl (.lst ((L.gs.map fun p=>V.ref p.1)++[.ref y])))) (h3:EV (fZ 3) σ H (.ref L.gl)) (h1:EV (fZ 1) σ H (.int a)) (h2:EV (fZ 2) σ H (.int b)),
    BZ (tBM K "list" CK (fZ 3) (dD (GV n.eW (WU n) [] E0 (dD (fZ 1) (dD (fZ 2) eU))) eU)) D σ H:=by
   intro D σ q h3 h1 h2;refine pb h3 hl ?_;refine(aD h1 (aD h2 aL)) _ fun y dy ny ndy hne=>⟨y,dy,a,b,rfl,aH,fun H1 l1 hl1 hG keep=>⟨rfl,?_⟩⟩;have s1:aX H H1:=aX.made ny ndy keep;have nl1:H l1=none:=by
    cases q2:H l1 with
    |none=>rfl
    |some o=>
     have:=aX.mkI (C:=n.eW) (F:=[]) ny ndy l1 o q2;have z:=hl1.symm.trans this;cases z
   refine⟨L.gl,_,_,rfl,rfl,s1 _ _ hl,?_,q y l1 H1 ny nl1 s1 hG⟩;rw[List.length_map,hall.1];exact Nat.lt_of_le_of_lt hz (by decide)
  refine happ _ _ (fun y l1 H1 ny nl1 s1 hG=>?_) (aA rfl) (aA rfl) (aA rfl);have hl1:=s1 _ _ hl;have c:Chg [L.gl] H (upd H1 L.gl (.lst ((L.gs.map fun p=>V.ref p.1)++[.ref y]))):=(Chg.same s1 _).trans (Chg.upd (by simp) hl1 rfl);have c1:Chg [L.gl] H1 (upd H1 L.gl (.lst ((L.gs.map fun p=>V.ref p.1)++[.ref y]))):=Chg.upd (by simp) hl1 rfl;have nyg:y≠L.gl:=fun q=>by rw[q,hl] at ny;cases ny
  have nlg:l1≠L.gl:=fun q=>by rw[q,hl] at nl1;cases nl1
  have nsg:L.s≠L.gl:=fV hs hl (by intro z;cases z)
  have hS:gI n (upd H1 L.gl (.lst ((L.gs.map fun p=>V.ref p.1)++[.ref y]))) L.s L.gl (L.gs++[(y,l1)]) { Z.stores with goods:=Z.stores.goods++[⟨a,b,[],0,0,0,0⟩] }:=by
   refine⟨hV.stores.obj.chg c (.inl (by simpa using nsg)),?_,?_⟩
   ·rw[aH,List.map_append];rfl
   ·refine dJ.tU ⟨hall.1,fun i q G e1 e2=>?_⟩ (hG.chg c1 (by simpa using nyg) (by simpa using nlg));have hq:=hall.2 i q G e1 e2;have hm:=List.mem_of_getElem? e1;obtain⟨dq,hq2⟩:=hq.obj;refine hq.chg c (by simpa using fV hq2 hl (by intro z;cases z)) ?_;simp only[List.mem_singleton];exact fun z=>hV.sgl (by rw[←z];exact List.mem_map.mpr ⟨q,hm,rfl⟩)
  have hap:QJ (L.gs++[(y,l1)]):=by
   refine⟨?_,?_⟩
   ·rw[List.map_append];refine wH hV.ap.1 fun hm=>?_;obtain⟨q,hq,e2⟩:=List.mem_map.mp hm;obtain⟨G,l',dq,hq2⟩:=hV.good q.1 (List.mem_map.mpr ⟨q,hq,rfl⟩);have e3:q.1=y:=e2;rw[e3,ny] at hq2;cases hq2
   ·rw[List.map_append];refine wH hV.ap.2 fun hm=>?_;obtain⟨q,hq,e2⟩:=List.mem_map.mp hm;obtain⟨xs,hq2⟩:=hV.isLG q.2 (List.mem_cons_of_mem _ (List.mem_map.mpr ⟨q,hq,rfl⟩));have e3:q.2=l1:=e2;rw[e3,nl1] at hq2;cases hq2
  have c':Chg L.aS H (upd H1 L.gl (.lst ((L.gs.map fun p=>V.ref p.1)++[.ref y]))):=c.cF fun q hq=>by rw[List.mem_singleton.mp hq];simp[bZ.aS,bZ.gX]
  dsimp only;refine k.yes (hV.UO hS c' (fun x hx=>?_) hap) rfl (c'.cF fun q hq=>rS hq) (fun x hx=>?_) (aD (dR (bU (eT (aA rfl) (SqL.of aH)) aO) ?_) aL) (by show 1≤1000;decide) rfl
  ·rw[List.map_append] at hx
   rcases List.mem_append.mp hx with q |q
   ·exact .inl q
   ·rw[List.mem_singleton.mp q];exact .inr nl1
  ·rcases all_gs hx with q |q |q
   ·exact .inl q
   ·rw[List.map_append] at q
    rcases List.mem_append.mp q with q |q
    ·exact .inl (rS (by unfold bZ.aS;exact List.mem_cons_of_mem _ (List.mem_append_left _ q)))
    ·rw[List.mem_singleton.mp q];exact .inr ny
   ·rw[List.map_append] at q
    rcases List.mem_append.mp q with q |q
    ·exact .inl (rS (by unfold bZ.aS bZ.gX;exact List.mem_cons_of_mem _ (List.mem_append_right _ (List.mem_cons_of_mem _ q))))
    ·rw[List.mem_singleton.mp q];exact .inr nl1
  ·show V.int _=V.int _;congr 1;rw[List.length_append,List.length_map,hall.1];show((Z.stores.goods.length+1:Nat):Int) - 1=((Z.stores.goods.length:Nat):Int);omega
end
theorem zz{l:List Addr}(h:l.Nodup){i j:Nat}{a b:Addr}(e1:l[i]? =some a)(e2:l[j]? =some b)(n:i≠j):a≠b:=by
 obtain⟨h1,rfl⟩:=List.getElem?_eq_some_iff.mp e1;obtain⟨h2,rfl⟩:=List.getElem?_eq_some_iff.mp e2;intro q
 rcases Nat.lt_or_gt_of_ne n with z |z
 ·exact(List.pairwise_iff_getElem.mp h) i j h1 h2 z q
 ·exact(List.pairwise_iff_getElem.mp h) j i h2 h1 z q.symm
theorem A8{gs:List (Addr×Addr)}{x:Int}{p:Addr×Addr}(h0:0≤x)(h:gs[x.toNat]? =some p):atI (gs.map fun p=>V.ref p.1) x=some (.ref p.1):=by
 have :x=((x.toNat:Nat):Int):=by omega
 rw[this];exact oJ (by rw[List.getElem?_map,h];rfl)
section
variable{P:Program}{w:World}{K:PySem.W.Frag}{mg:Str→Option Value}{aT:Heap}{n:bL}
def J1(n:bL):List V→Hp→V→Prop:=fun vs H v=>∃s gl gs S x,vs=[.ref s,.int x]∧gI n H s gl gs S∧v=.bl (decide (x < ((S.goods.length:Nat):Int)))
theorem uP(T:Txt K mg n):bK P w K mg aT CX0 1 n.vT n.wU ["stores","number"] (spP (J1 n)):=by
 refine bK.pure (T.mW.ok A5 (fun vs H Q E h=>?_) (fun cdv A bF s H vs Q E hr h=>?_))
 ·obtain⟨v,⟨_,_,_,_,_,rfl,_⟩,_⟩:=h;rfl
 ·obtain⟨v,⟨s,gl,gs,S,x,rfl,hS,rfl⟩,k⟩:=h;obtain⟨ds,hs⟩:=hS.obj;have hl:=hS.lst;have hlen:(((gs.map fun p=>V.ref p.1).length:Nat):Int)=((S.goods.length:Nat):Int):=by rw[List.length_map,hS.goods.1]
  refine⟨_,(aK (aN (gM tL (pv 1) (bW cM (by rfl) T.eE PySem.boot_len (aB (aI (pv 0) rfl) aG)) (bD _)))),?_⟩;exact dO (bU (aA rfl) (dR (eT (aJ (aA rfl) hs T.gF T.eA rfl) (SqL.of hl)) (congrArg V.int hlen))) (k H aX.rfl')
def Ci(n:bL):List V→Hp→V→Prop:=fun vs H v=>∃g l G d,vs=[.ref g,.int d]∧fL n H g l G∧v=.int (d+G.life)
theorem vC(T:Txt K mg n):bK P w K mg aT CX0 1 n.qR n.qP ["good","day"] (spP (Ci n)):=by
 refine bK.pure (T.mH.ok RT (fun vs H Q E h=>?_) (fun cdv A bF s H vs Q E hr h=>?_))
 ·obtain⟨v,⟨_,_,_,_,rfl,_⟩,_⟩:=h;rfl
 ·obtain⟨v,⟨g,l,G,d,rfl,hG,rfl⟩,k⟩:=h;obtain⟨dg,hg⟩:=hG.obj;refine⟨_,(aK (aN (dG gJ (pv 1) (aI (pv 0) rfl)))),?_⟩;exact dO (bU (aA rfl) (aJ (aA rfl) hg T.dE T.rK rfl)) (k H aX.rfl')
def xt(n:bL):Sp:=fun vs H Q _=>∃L Z a b,vs=[.ref L.v,.int a,.int b]∧0≤a∧bH n H L Z∧Z.stores.goods.length≤1000∧(∀G∈Z.stores.goods,G.lots.length≤900)∧oS n H L (CS.wI Z a b) Q
theorem sy(T:Txt K mg n):bK P w K mg aT CX0 4 n.WC n.WL ["vessel","g","n"] (xt n):=by
 refine T.WM.ok CH (fun vs H Q E h=>?_) (fun cdv A bF s H vs Q E hr h=>?_)
 ·obtain⟨L,Z,a,b,rfl,_⟩:=h;rfl
 ·obtain⟨L,Z,a,b,rfl,h0,hV,hz,hlots,k⟩:=h;obtain⟨dv,hv⟩:=hV.obj;obtain⟨ds,hs⟩:=hV.stores.obj;have hl:=hV.stores.lst;have hall:=hV.stores.goods;have hfew:sD Z.stores:=⟨hz,fun G hG=>Nat.le_trans (hlots G hG) (by decide)⟩;have hlen:(((L.gs.map fun p=>V.ref p.1).length:Nat):Int)=((Z.stores.goods.length:Nat):Int):=by rw[List.length_map,hall.1]
  refine⟨_,(aE (pst (i:=3) CH.nd (aI (pv 0) rfl))
   (aE (bS (rR (dW (pcl (uP T) hr T.vK T.mW (wT T) (aB (pv 3) (aB (pv 1) aG))))) (aK (aN (bJ (aB (aV rfl T.hC) aG)))) bG)
   (aE (bS (bE cY (pv 2) aQ (bD _)) (aK (aN (bJ (aB (aV rfl T.eC) aG)))) bG)
   (aE (bS (dW (pcl (kC T) hr T.lN T.iW (lI T) (aB (aI (pv 0) rfl) aG))) (aK (aN (bJ (aB (aV rfl T.jE) aG)))) bG)
   (aE (pst (i:=4) CH.nd (cT bV (aI (pv 3) rfl) (pv 1) (fun _ _=>rfl)))
   (aE (bS (dW (pcl (M2 T) hr T.Z5 T.AM (Y2 T) (aB (pv 3) (aB (pv 4) (aB (pv 2) aG))))) (aK (aN (bJ (aB (aV rfl T.uY) aG)))) bG)
   (aE (pst (i:=5) CH.nd (pcl (vC T) hr T.xD T.mH (xC T) (aB (pv 4) (aB (pcl (xL T) hr T.CJ T.vB (CN T) (aB (aI (pv 0) rfl) aG)) aG))))
   (aE (bS (PW.pt (oQ (bE cY (bW cM (by rfl) T.eE PySem.boot_len (aB (aI (pv 4) rfl) aG)) (aV rfl T.IW) (bD _)) (oF (rR (dW (pcl (F9 T) hr T.W0 T.GX (R9 T) (aB (pv 4) (aB (pv 5) aG)))))))) (aK (aN (bJ (aB (aV rfl T.jW) aG)))) bG)
   (aE (eQ (pcl (bv T) hr T.kq T.KK (lv T) (aB (pv 4) (aB (pv 5) (aB (pv 2) aG)))))
   (aK (aN (bJ (aB (pcl (KA T) hr T.RF T.vE (SD T) (aB (pv 4) aG)) (aB (pv 5) aG)))))))))))))),?_⟩
  unfold CS.wI at k;refine cI (aJ (aA rfl) hv T.bO T.eB rfl) ?_;dsimp only;refine cD (rU (dX (bI (aD (aA rfl) (aD (aA rfl) aL)) ⟨L.s,L.gl,L.gs,Z.stores,a,rfl,hV.stores,rfl⟩))) (fun e=>?_) (fun e=>?_)
  ·rw[Bool.not_eq_true'] at e;rw[if_pos (Int.not_lt.mp (of_decide_eq_false e))] at k;exact k.no hV rfl rfl
  rw[Bool.not_eq_false'] at e;have hlt0:=of_decide_eq_true e;have hlt:¬a≥((Z.stores.goods.length:Nat):Int):=by omega
  rw[if_neg hlt] at k;dsimp only[bT];refine cD (bB (cP (aA rfl) aO)) (fun e=>?_) (fun e=>?_)
  ·rw[if_pos (of_decide_eq_true e)] at k;exact k.no hV rfl rfl
  rw[if_neg (of_decide_eq_false e)] at k;dsimp only[bT];refine cD (dX (bI (aD (aJ (aA rfl) hv T.bO T.dF rfl) aL) ⟨L.w,L.wl,Z.way,rfl,hV.way,rfl⟩)) (fun e=>?_) (fun e=>?_)
  ·rw[if_pos e] at k;exact k.no hV rfl rfl
  rw[if_neg (by rw[e];decide)] at k;dsimp only[bT];have hi:a.toNat < Z.stores.goods.length:=by omega
  have hG0:Z.stores.goods[a.toNat]? =some (Z.stores.goods[a.toNat]):=List.getElem?_eq_getElem hi;obtain⟨p,hp,hG⟩:=hall.at hG0;have hgetD:Z.stores.goods.getD a.toNat ⟨0,0,[],0,0,0,0⟩=Z.stores.goods[a.toNat]:=by rw[List.getD_eq_getElem?_getD,hG0];rfl
  have hGm:Z.stores.goods[a.toNat]∈Z.stores.goods:=List.getElem_mem hi;rw[hgetD] at k;generalize Z.stores.goods[a.toNat]=G at*;have hGl:G.lots.length≤1000:=Nat.le_trans (hlots G hGm) (by decide);obtain⟨⟨dg,hg⟩,as,hla,halla⟩:=id hG;refine cI (cS (aJ (aA rfl) hs T.gF T.eA rfl) (aA rfl) (SqL.of hl) (A8 h0 hp)) ?_;dsimp only;refine cD (dX (bI (aD (aA rfl) (aD (aA rfl) (aD (aA rfl) aL))) ⟨L.s,L.gl,L.gs,Z.stores,p.1,p.2,G,b,rfl,hV.stores,hfew,hG,rfl⟩)) (fun e=>?_) (fun e=>?_)
  ·rw[if_pos (by unfold ZO at e;simp only[Bool.or_eq_true,decide_eq_true_eq,or_assoc] at e;exact e)] at k;exact k.no hV rfl rfl
  rw[if_neg (by
   unfold ZO at e;intro z;simp only[Bool.or_eq_false_iff,decide_eq_false_iff_not] at e
   rcases z with z |z |z
   ·exact e.1.1 z
   ·exact e.1.2 z
   ·exact e.2 z)] at k
  dsimp only[bT];refine cI (v:=.int (CS.today Z.way+G.life)) (bI (aD (aA rfl) (aD (bI (aD (aJ (aA rfl) hv T.bO T.dF rfl) aL) ⟨L.w,L.wl,Z.way,rfl,hV.way,rfl⟩) aL)) ⟨p.1,p.2,G,_,rfl,hG,rfl⟩) ?_;dsimp only;refine cD (oR (qZ (bB (cP (dR (eT (aJ (aA rfl) hg T.dE T.fA rfl) (SqL.of hla)) (congrArg V.int (show(((as.map V.ref).length:Nat):Int)=((G.lots.length:Nat):Int) by rw[List.length_map,halla.1]))) aO)) (MC (m:=6))) fun _=>rU (dX (bI (aD (aA rfl) (aD (aA rfl) aL)) ⟨p.1,p.2,G,_,rfl,hG,hGl,rfl⟩))) (fun e=>?_) (fun e=>?_)
  ·simp only[Bool.and_eq_true,decide_eq_true_eq,Bool.not_eq_true'] at e;rw[if_pos e] at k;exact k.no hV rfl rfl
  rw[if_neg (by
   intro z;rw[decide_eq_true z.1,z.2] at e;cases e)] at k
  dsimp only[bT];have hd:G.life+0=G.life:=by omega
  generalize CS.today Z.way+G.life=d at*;refine cG (vs:=[.ref p.1,.int d,.int b]) (aD (aA rfl) (aD (aA rfl) (aD (aA rfl) aL))) ⟨p.1,p.2,G,d,b,rfl,hG,hGl,fun H1 hG1 c=>?_⟩;have hm:=List.mem_of_getElem? hp
  have hS:gI n H1 L.s L.gl L.gs { Z.stores with goods:=Z.stores.goods.set a.toNat (CS.jL G d b) }:=by
   have nsp:L.s∉[p.1,p.2]:=by
    simp only[List.mem_cons,List.not_mem_nil,or_false,not_or];exact⟨vN "room" hs hg rfl rfl,fV hs hla (by intro z;cases z)⟩
   have nlp:L.gl∉[p.1,p.2]:=by
    simp only[List.mem_cons,List.not_mem_nil,or_false,not_or];exact⟨fun q=>fV hg hl (by intro z;cases z) q.symm,fun q=>hV.sgl (by rw[q];exact List.mem_map.mpr ⟨p,hm,rfl⟩)⟩
   refine⟨hV.stores.obj.chg c (.inl nsp),c.keep _ _ hl (.inl nlp),⟨by rw[List.length_set];exact hall.1,fun j q G' e1 e2=>?_⟩⟩
   by_cases hj:a.toNat=j
   ·subst hj;rw[hp] at e1;cases e1;rw[List.getElem?_set_self hi] at e2;cases e2;exact hG1
   ·rw[List.getElem?_set_ne hj] at e2;have hq:=hall.2 j q G' e1 e2;obtain⟨dq,hq2⟩:=hq.obj;obtain⟨aq,hq3,_⟩:=hq.lots;refine hq.chg c ?_ ?_
    ·simp only[List.mem_cons,List.not_mem_nil,or_false,not_or];exact⟨zz hV.ap.1 (by rw[List.getElem?_map,e1];rfl) (by rw[List.getElem?_map,hp];rfl) (Ne.symm hj),fV hq2 hla (by intro z;cases z)⟩
    ·simp only[List.mem_cons,List.not_mem_nil,or_false,not_or];exact⟨fun z=>fV hg hq3 (by intro z;cases z) z.symm,zz hV.ap.2 (by rw[List.getElem?_map,e1];rfl) (by rw[List.getElem?_map,hp];rfl) (Ne.symm hj)⟩
  have c':Chg L.aS H H1:=c.cF fun q hq=>by
   simp only[List.mem_cons,List.not_mem_nil,or_false] at hq
   rcases hq with rfl |rfl
   ·unfold bZ.aS;exact List.mem_cons_of_mem _ (List.mem_append_left _ (List.mem_map.mpr ⟨p,hm,rfl⟩))
   ·unfold bZ.aS bZ.gX;exact List.mem_cons_of_mem _ (List.mem_append_right _ (List.mem_cons_of_mem _ (List.mem_map.mpr ⟨p,hm,rfl⟩)))
  dsimp only;refine k.yes (hV.UO hS c' (fun x hx=>.inl hx) hV.ap) rfl (c'.cF fun q hq=>rS hq) (fun x hx=>.inl hx) (aD (bI (aD (aA rfl) aL) ⟨p.1,p.2,_,rfl,hG1,?_,rfl⟩) (aD (aA rfl) aL)) (by show 2≤1000;decide) rfl;unfold CS.jL;have hll:=hlots G hGm;dsimp only
  split
  ·rw[List.length_append,List.length_dropLast];simp only[List.length_cons,List.length_nil];omega
  ·rw[List.length_append];simp only[List.length_cons,List.length_nil];omega
end
def iM(H:Hp)(xs:List Int)(Q:VK):Prop:=∀H' r,aX H H'→H r=none→H' r=some (.lst (xs.map V.int))→Q (.ref r) H'
theorem iM.same{H H1:Hp}{xs:List Int}{Q:VK}(k:iM H xs Q)(sm:aX H H1):iM H1 xs Q:=fun H' r s2 nr e=>k H' r (sm.trans s2) (sm.free nr) e
theorem iM.ret{H:Hp}{xs:List Int}{Q:VK}{D:lB}{σ:L2.St}{tl:TA}(k:iM H xs Q)(ha:EA tl σ H (xs.map V.int))(hz:xs.length≤1000)(hD:D.rt=Q):GF (EU tl) D σ H:=by
 refine ha _ ⟨?_,fun r nr=>?_⟩
 ·rw[List.length_map];exact Nat.le_trans hz (by decide)
 ·rw[hD];exact k _ r (aX.upd nr) nr aH
section
variable{P:Program}{w:World}{K:PySem.W.Frag}{mg:Str→Option Value}{aT:Heap}{n:bL}
def oi(n:bL):Sp:=fun vs H Q _=>∃L Z,vs=[.ref L.v]∧bH n H L Z∧Z.way.legs.length≤1000∧iM H (CS.CM Z) Q
theorem ko(T:Txt K mg n):bK P w K mg aT CX0 5 n.QS n.QB ["vessel"] (oi n):=by
 refine T.NZ.ok yY (fun vs H Q E h=>?_) (fun cdv A bF s H vs Q E hr h=>?_)
 ·obtain⟨L,Z,rfl,_⟩:=h;rfl
 ·obtain⟨L,Z,rfl,hV,hz,k⟩:=h;obtain⟨dv,hv⟩:=hV.obj;obtain⟨dw,hw⟩:=hV.way.obj;refine⟨_,(aE (pst (i:=1) yY.nd (aI (pv 0) rfl))
   (aE (pst (i:=2) yY.nd (tO (dW (pcl (kC T) hr T.lN T.iW (lI T) (aB (pv 1) aG))) aQ aQ))
   (aE (pst (i:=3) yY.nd (tO (dW (pcl (SK T) hr T.WV T.wD (VZ T) (aB (pv 1) aG))) aQ aQ))
   (aK (aN (bJ (aB (pcl (sV T) hr T.vW T.pI (wB T) (aB (pv 1) (aB (aI (pv 1) rfl) aG))) (aB (pcl (JK T) hr T.MH T.vR (NS T) (aB (pv 1) (aB (aI (pv 1) rfl) aG))) (aB (pv 2) (aB (pv 3) (aB (pcl (CC T) hr T.GL T.uW (GQ T) (aB (pv 1) aG)) aG))))))))))),?_⟩
  refine cI (aJ (aA rfl) hv T.bO T.dF rfl) ?_;dsimp only
  refine cI (v:=.int (if CS.gP Z.way=true then 0 else 1)) (dR (E7 (dX (bI (aD (aA rfl) aL) ⟨L.w,L.wl,Z.way,rfl,hV.way,rfl⟩)) (fun _=>aO) (fun _=>aO)) (by cases CS.gP Z.way <;> rfl)) ?_
  dsimp only
  refine cI (v:=.int (if CS.kG Z.way=true then 1 else 0)) (dR (E7 (dX (bI (aD (aA rfl) aL) ⟨L.w,L.wl,Z.way,rfl,hV.way,rfl⟩)) (fun _=>aO) (fun _=>aO)) (by cases CS.kG Z.way <;> rfl)) ?_
  dsimp only;exact k.ret (aD (bI (aD (aA rfl) (aD (aJ (aA rfl) hw T.dM T.dS rfl) aL)) ⟨L.w,L.wl,Z.way,_,rfl,hV.way,rfl⟩) (aD (bI (aD (aA rfl) (aD (aJ (aA rfl) hw T.dM T.dS rfl) aL)) ⟨L.w,L.wl,Z.way,_,rfl,hV.way,rfl⟩) (aD (aA rfl) (aD (aA rfl) (aD (bI (aD (aA rfl) aL) ⟨L.w,L.wl,Z.way,rfl,hV.way,hz,rfl⟩) aL))))) (by show 5≤1000;decide) rfl
end
end CSP
namespace L2
open PySem PySem.Spec PyProof.Rows
section
variable{X:Cx}
theorem m8:∀{xs:List V} {us:List Value},xs.length=us.length→(∀(k:Nat) (x:V) (y:Value),xs[k]? =some x→us[k]? =some y→dZ x y)→cR xs us
 |[],[],_,_=>.nil
 |[],_::_,e,_=>by cases e
 |_::_,[],e,_=>by cases e
 |x::xs,u::us,e,h=>.cons (h 0 x u rfl rfl) (m8 (by simpa using e) fun k a b h1 h2=>h (k+1) a b (by simpa using h1) (by simpa using h2))
def ZF:List V→Hp→VK→Prop:=fun xs H Q=>∃i j:Int,xs=[.int i,.int j]∧∀r,H r=none→Q (.ref r) (upd H r (.rng i j))
theorem Fp:tJ X (.type "range") ZF:=by
 intro pins s σ H xs us Q I r h;obtain⟨i,j,rfl,q⟩:=h
 cases r with
 |cons r rr=>
  cases rr with
  |cons r' rr=>
   cases rr;obtain⟨t,rfl⟩:=r;obtain⟨t',rfl⟩:=r';refine call_range_2 ?_;refine⟨.ref s.heap.objs.size,_,I.wN (o:=.rng i j) (fun b o e=>Heap.get?_push_of_some _ e) (Nat.le_refl _) ?_,rfl,q _ (I.hok.fresh (Nat.le_refl _))⟩;exact⟨_,_,_,Heap.get?_push_size _ rfl⟩
def NW:List V→Hp→VK→Prop:=fun xs H Q=>∃(r:Addr) (i j:Int),xs=[.ref r]∧H r=some (.rng i j)∧(-(2 ^ 62)≤i∧i < 2 ^ 62∧ -(2 ^ 62)≤j∧j < 2 ^ 62)∧(j - i).toNat≤1000∧∀l,H l=none→Q (.ref l) (upd H l (.lst ((List.range (j - i).toNat).map fun(k:Nat)=>V.int (i+(k:Int)))))
theorem Z9(hc:X.uM=true):tJ X (.type "list") NW:=by
 intro pins s σ H xs us Q I r h;obtain⟨p,i,j,rfl,hp,⟨q1,q2,q3,q4⟩,hz,q⟩:=h;obtain⟨u,rfl,rx⟩:=az r;cases rx;obtain⟨t,u,v,e⟩:∃t u v,s.heap.get? p=some { cls:=.type "range",data:=.fields #[.int i t,.int j u,.int 1 v] }:=I.hok p _ hp;refine call_list_range (n:=(j - i).toNat) (I.ok.hd hc) (show IsRange s.heap p i j 1 t u v from e) (small_one q1 q2 q3 q4) (by rw[rangeSize_one];split <;> omega) (Nat.le_trans hz (by decide)) fun h' tk acc' c' hk hS' hacc=>?_;refine⟨.ref s.heap.objs.size,_,I.wN hk (Nat.le_refl _) (show iX X.prog X.w _ h' _ (.lst _) from⟨?_,acc'.toList,c',?_,by simpa using hS'⟩),rfl,q _ (I.hok.fresh (Nat.le_refl _))⟩
 ·rw[List.length_map,List.length_range];exact Nat.le_trans hz (by decide)
 ·refine m8 (by rw[List.length_map,List.length_range,Array.length_toList,hacc.1]) fun k x y hx hy=>?_;rw[List.getElem?_map] at hx;have hy':acc'[k]? =some y:=by simpa using hy
  obtain⟨tk,rfl⟩:=hacc.2 k y hy';have hk':k < (j - i).toNat:=by
   have:=(Array.getElem?_eq_some_iff.mp hy').1;rw[hacc.1] at this;exact this
  rw[List.getElem?_range hk'] at hx;cases hx;exact⟨tk,by rw[Int.mul_one]⟩
end
end L2
namespace CSP
open PySem PySem.Spec PyProof.Rows L2
section
variable{P:Program}{w:World}{K:PySem.W.Frag}{mg:Str→Option Value}{aT:Heap}{n:bL}
theorem De{tl:TA}{σ:L2.St}{H:Hp}{i j:Int}{Q:VK}(ha:EA tl σ H [.int i,.int j])(hb: -(2 ^ 62)≤i∧i < 2 ^ 62∧ -(2 ^ 62)≤j∧j < 2 ^ 62)(hz:(j - i).toNat≤1000)
  (q:∀H' l,aX H H'→H l=none→H' l=some (.lst ((List.range (j - i).toNat).map fun(k:Nat)=>V.int (i+(k:Int))))→Q (.ref l) H'):tCB NW (dD (tCB ZF tl) eU) σ H Q:=by
 refine ha (fun vs H1=>ZF vs H1 fun v H2=>NW [v] H2 Q) ⟨i,j,rfl,fun r nr=>⟨r,i,j,rfl,aH,hb,hz,fun l nl=>?_⟩⟩;have s1:aX H (upd H r (.rng i j)):=aX.upd nr;refine q _ l (s1.trans (aX.upd nl)) ?_ aH
 cases q:H l with
 |none=>rfl
 |some o=>have:=s1 _ _ q;rw[this] at nl;cases nl
def tz(n:bL):Sp:=fun vs H Q _=>∃(a:Addr) (p:CS.Party),vs=[.ref a]∧gH H n.mM a (jf p)∧(-(2 ^ 61)≤p.first∧p.first < 2 ^ 61)∧0≤p.many∧p.many≤1000∧iM H (CS.iV p) Q
theorem J4(T:Txt K mg n):bK P w K mg aT CX0 1 n.XY n.WF ["party"] (tz n):=by
 refine T.HI.ok wc (fun vs H Q E h=>?_) (fun cdv A bF s H vs Q E hr h=>?_)
 ·obtain⟨a,p,rfl,_⟩:=h;rfl
 ·obtain⟨a,p,rfl,⟨da,ha⟩,⟨h1,h2⟩,h3,h4,k⟩:=h;refine⟨_,(aK (aN (mS (Z9 rfl) (by rfl) T.tF PyProof.Rows.boot_list (aB (mS Fp (by rfl) T.rV boot_range (aB (aI (pv 0) rfl) (aB (dG gJ (aI (pv 0) rfl) (aI (pv 0) rfl)) aG))) aG)))),?_⟩
  show tCB NW (dD (tCB ZF (dD (lS K (fZ 0) "first") (dD (tOp _ _ _) eU))) eU) _ H Q
  refine De (aD (aJ (aA rfl) ha T.lU T.jS rfl) (aD (bU (aJ (aA rfl) ha T.lU T.jS rfl) (aJ (aA rfl) ha T.lU T.pS rfl)) aL)) ⟨by omega,by omega,by omega,by omega⟩ (by omega) fun H' l sm nl hl=>k _ l sm nl ?_;rw[hl];unfold CS.iV;rw[List.map_map,show p.first+p.many - p.first=p.many by omega];rfl
end
theorem fh:∀(l:List Int) (s:List Int),(l.foldl (fun s (x:Int)=>s.set x.toNat 2) s).length=s.length
 |[],_=>rfl
 |x::l,s=>by rw[List.foldl_cons,fh l,List.length_set]
section
variable{P:Program}{w:World}{K:PySem.W.Frag}{mg:Str→Option Value}{aT:Heap}{n:bL}
theorem cK.An{H:Hp}{a:Addr}{L:fG}{Z:CS.cZ}{st:List Int}(h:cK n H a L Z)(hnd:L.Nd):cK n (upd H L.s (.lst (st.map V.int))) a L { Z with aM:=st }∧Chg [L.s] H (upd H L.s (.lst (st.map V.int))):=by
 have c:Chg [L.s] H (upd H L.s (.lst (st.map V.int))):=Chg.upd (by simp) h.aM rfl;obtain⟨n1,n2,n3,n4,n5⟩:=h.rJ;obtain⟨d1,d2,d3,d4,d5,d6,d7,d8,d9,d10⟩:=hnd.ne;obtain⟨da,ha⟩:=h.obj;refine⟨⟨h.obj.chg c (.inl (by simpa using fV ha h.aM (by intro z;cases z))),h.cabins.chg c ?_ lJ,h.parties.chg c ?_ lK,h.persons.chg c ?_ jX,aH,c.keep _ _ h.bR (.inl ?_)⟩,c⟩
 all_goals (simp only[List.mem_singleton];first |assumption |exact Ne.symm (by assumption))
def qc(n:bL):Sp:=fun vs H Q _=>∃L Z x,vs=[.ref L.v,.int x]∧0≤x∧bH n H L Z∧POk Z.aF∧(∀p∈Z.aF.parties,0≤p.many∧p.first+p.many≤(Z.aF.persons.length:Int))∧oS n H L (CS.sL Z x) Q
theorem mw(T:Txt K mg n):bK P w K mg aT CX0 3 n.SB n.QU ["vessel","party"] (qc n):=by
 refine T.MP.ok qF (fun vs H Q E h=>?_) (fun cdv A bF s H vs Q E hr h=>?_)
 ·obtain⟨L,Z,x,rfl,_⟩:=h;rfl
 ·obtain⟨L,Z,x,rfl,h0,hV,hok,hspan,k⟩:=h;obtain⟨dv,hv⟩:=hV.obj;obtain⟨dp,hp⟩:=hV.aF.obj;refine⟨_,(aE (pst (i:=2) qF.nd (aI (pv 0) rfl))
   (aE (bS (rR (dW (pcl (nY T) hr T.pA T.jV (oY T) (aB (pv 2) (aB (pv 1) aG))))) (aK (aN (bJ (aB (aV rfl T.hC) aG)))) bG)
   (aE (pst (i:=3) qF.nd (pcl (J4 T) hr T.S8 T.HI (W1 T) (aB (cT bV (aI (pv 2) rfl) (pv 1) (fun _ _=>rfl)) aG)))
   (aE (bS (dW (kJ (bW (WH rfl) (by rfl) T.PJ boot_any (aB (mQ (g:=dB 4) (tt:=yK) (te:=(tOp _ (tOp (rIxL K) (lS K _ _) _) _)) rfl qF.nd (iI (pv 3)) (gB (own:=[("person",4)]) rfl) (fun _ _ _ _ _=>(pgn (i:=4) qF.nd)) (fun _ _ _ _ _=>mL) (fun _ _ _ _ _=>(gM cY (cT bV (aI (pv 2) rfl) (pv 4) (fun _ _=>rfl)) (aV rfl T.pD) (bD _)))) aG)))) (aK (aN (bJ (aB (aV rfl T.jE) aG)))) bG)
   (aE (sZ PassesOwn.never rfl (iI (pv 3)) (pgn (i:=4) qF.nd) (aK (YM (aV rfl T.YG) (UG (aI (pv 2) rfl) (pv 4) DB))))
   (aK (aN (bJ (aB (bW cM (by rfl) T.eE PySem.boot_len (aB (pv 3) aG)) aG))))))))),?_⟩
  unfold CS.sL at k;refine cI (aJ (aA rfl) hv T.bO T.cE rfl) ?_;dsimp only;refine cD (rU (dX (bI (aD (aA rfl) (aD (aA rfl) aL)) ⟨L.p,L.pl,Z.aF,x,rfl,hV.aF,hok,h0,rfl⟩))) (fun e=>?_) (fun e=>?_)
  ·rw[if_pos (by simpa using e)] at k;exact k.no hV rfl rfl
  have e':CS.fU Z.aF x=true:=by simpa using e
  rw[if_neg (by rw[e'];decide)] at k;have hlt:x < (Z.aF.parties.length:Int):=by
   unfold CS.fU at e';rw[Bool.and_eq_true] at e';exact of_decide_eq_true e'.1
  dsimp only[bT];obtain⟨as,b,db,hr1,hb,hb2⟩:=hV.aF.parties.atI (d:=⟨0,0,0⟩) h0 hlt;have hm:Z.aF.parties.getD x.toNat ⟨0,0,0⟩∈Z.aF.parties:=getD_mem (by omega);generalize Z.aF.parties.getD x.toNat ⟨0,0,0⟩=p at*;obtain⟨f1,f2⟩:=hok.first p hm;obtain⟨m1,m2⟩:=hspan p hm;have hfew:=hok.few.1;refine gR (cG (vs:=[.ref b]) (aD (cS (aJ (aA rfl) hp T.aY T.dL rfl) (aA rfl) (SqL.of hr1) hb) aL) ⟨b,p,rfl,⟨db,hb2⟩,⟨by omega,by omega⟩,m1,by omega,fun H1 r sm nr hr2=>?_⟩);have hmem:∀y∈CS.iV p,0≤y∧y < (Z.aF.aM.length:Int):=by
   intro y hy;unfold CS.iV at hy;obtain⟨i,hi,rfl⟩:=List.mem_map.mp hy;have:=List.mem_range.mp hi;rw[hok.sl];omega
  have hml:(CS.iV p).length≤1000:=by unfold CS.iV;rw[List.length_map,List.length_range];omega
  generalize CS.iV p=ms at*;have hV1:=hV.same sm;have hp1:=sm _ _ hp;have hst1:H1 L.pl.s=some (.lst (Z.aF.aM.map V.int)):=hV1.aF.aM;have nrs:r≠L.pl.s:=fun q=>by
   have h9:H L.pl.s=some (.lst (Z.aF.aM.map V.int)):=hV.aF.aM;rw[q,h9] at nr;cases nr
  dsimp only;refine cD (dX (VG (bs:=ms.map fun(y:Int)=>decide (Z.aF.aM.getD y.toNat 0=0)) fun Q q=>?_)) (fun e=>?_) (fun e=>?_)
  ·refine iB (rs:=ms.map fun(y:Int)=>(true,V.bl (decide (Z.aF.aM.getD y.toNat 0=0)))) (aA rfl) (SqL.of hr2) ?_ ?_ ?_ ?_
   ·rw[List.length_map];exact Nat.le_trans hml (by decide)
   ·rw[List.length_map,List.length_map]
   ·intro i v r hx hr H' sm';rw[List.getElem?_map] at hx hr
    cases hy:ms[i]? with
    |none=>rw[hy] at hx;cases hx
    |some y=>
     rw[hy] at hx hr;cases hx;cases hr;obtain⟨y0,y1⟩:=hmem y (List.mem_of_getElem? hy);exact⟨fun Q q=>q,fun _=>cP (cS (aJ (aA rfl) (sm' _ _ hp1) T.aY T.dA rfl) (aA rfl) (SqL.of (sm' _ _ hst1)) (qC y0 y1)) aO⟩
   ·intro D H' nD sm' hD';refine q D H' nD sm' ?_;rw[hD',mC,List.map_map];rfl
  ·rw[if_pos e] at k;exact k.yes hV1 rfl (Chg.same sm _) (fun a ha=>.inl ha) (aD aO aL) (by show 1≤1000;decide) rfl
  rw[if_neg (by rw[e];decide)] at k;dsimp only[bT]
  refine BY (xs:=ms.map V.int) (aA rfl) (SqL.of hr2) (fun i σ H'=>(∃z,σ=[some (.ref L.v),some (.int x),some (.ref L.p),some (.ref r),z])∧cK n H' L.p L.pl { Z.aF with aM:=(ms.take i).foldl (fun s (y:Int)=>s.set y.toNat 2) Z.aF.aM }∧Chg [L.pl.s] H1 H') ⟨⟨_,rfl⟩,hV1.aF,Chg.same aX.rfl' _⟩ ?_ ?_ ?_
  ·rintro i σ H' _ ⟨_,_,c⟩;exact SqL.of (c.keep _ _ hr2 (.inl (by simpa using nrs)))
  ·rintro i v σ H' hx ⟨⟨z,rfl⟩,hP,c⟩;rw[List.getElem?_map] at hx
   cases hy:ms[i]? with
   |none=>rw[hy] at hx;cases hx
   |some y=>
    rw[hy] at hx;cases hx;obtain⟨y0,y1⟩:=hmem y (List.mem_of_getElem? hy);obtain⟨dq,hq⟩:=hP.obj;have hst:=hP.aM;refine GP (k:=y.toNat) aO (aJ (aA rfl) hq T.aY T.dA rfl) (aA rfl) hst ?_ ?_
    ·have :y=((y.toNat:Nat):Int):=by omega
     rw[this];refine LJ ?_;rw[List.length_map];show y.toNat < (List.foldl (fun s (y:Int)=>s.set y.toNat 2) Z.aF.aM (ms.take i)).length;rw[fh];omega
    ·have em:∀st:List Int,(st.map V.int).set y.toNat (.int 2)=(st.set y.toNat 2).map V.int:=fun st=>by rw[List.map_set]
     rw[em];obtain⟨hP1,c1⟩:=hP.An (st:=(((ms.take i).foldl (fun s (y:Int)=>s.set y.toNat 2) Z.aF.aM).set y.toNat 2)) hV.pnd;refine⟨⟨_,rfl⟩,?_,c.trans c1⟩;rw[List.take_succ,hy];simp only[Option.toList,List.foldl_append,List.foldl_cons,List.foldl_nil];exact hP1
  ·rintro σ H' ⟨⟨z,rfl⟩,hP,c⟩;rw[List.length_map,List.take_length] at hP;have c':Chg L.aP H H':=((Chg.same sm _).trans c).cF fun b hb=>by
    rw[List.mem_singleton.mp hb];simp[bZ.aP,fG.fK]
   refine k.yes (hV.oU hP c' (fun a ha=>.inl ha) hV.pnd) rfl (c'.cF fun b hb=>pU hb) (fun a ha=>.inl ha) (aD (dR (eT (aA rfl) (SqL.of (c.keep _ _ hr2 (.inl (by simpa using nrs))))) ?_) aL) (by show 1≤1000;decide) rfl;rw[List.length_map]
end
def nV(l:List Nat):List Int:=l.map fun(k:Nat)=>(k:Int)
theorem yA(l:List Nat):(nV l).map V.int=l.map fun(k:Nat)=>V.int ((k:Nat):Int):=by
 unfold nV;rw[List.map_map];rfl
theorem VC(l:List Nat):(nV l).length=l.length:=by unfold nV;rw[List.length_map]
theorem iM.at{H:Hp}{xs:List Int}{Q:VK}(k:iM H xs Q){D:Addr}{H':Hp}{ys:List V}(nD:H D=none)(sm:aX H H')(e:H' D=some (.lst ys))(hy:ys=xs.map V.int):Q (.ref D) H':=k H' D sm nD (by rw[e,hy])
section
variable{P:Program}{w:World}{K:PySem.W.Frag}{mg:Str→Option Value}{aT:Heap}{n:bL}
def T4:List V→Hp→V→Prop:=fun vs H v=>∃l ks,vs=[.ref l]∧H l=some (.lst ((nV ks).map V.int))∧ks.length≤1000∧(∀k∈ks,k≤1000)∧v=.int (CS.mD ks)
theorem sG(T:Txt K mg n):bK P w K mg aT CX0 1 n.YQ n.WE ["numbers"] (spP T4):=by
 refine bK.pure (T.oW.ok RL (fun vs H Q E h=>?_) (fun cdv A bF s H vs Q E hr h=>?_))
 ·obtain⟨v,⟨l,ks,rfl,_⟩,_⟩:=h;rfl
 ·obtain⟨v,⟨l,ks,rfl,hl,hz,hk,rfl⟩,k⟩:=h;refine⟨_,(aK (aN (kJ (bW (LC rfl) (by rfl) T.GZ boot_sum (aB (mQ (g:=dB 1) (tt:=yK) (te:=(tOp _ _ _)) rfl RL.nd (iI (pv 0)) (gB (own:=[("number",1)]) rfl) (fun _ _ _ _ _=>(pgn (i:=1) RL.nd)) (fun _ _ _ _ _=>mL) (fun _ _ _ _ _=>(dG op_shl aQ (pv 1)))) aG))))),?_⟩;refine dO (dR (LG (ns:=ks.map fun k=>(1:Int)*2 ^ ((k:Nat):Int).toNat) fun Q q=>?_) ?_) (k H aX.rfl')
  ·refine iB (xs:=ks.map fun(k:Nat)=>V.int ((k:Nat):Int)) (rs:=ks.map fun(k:Nat)=>(true,V.int ((1:Int)*2 ^ ((k:Nat):Int).toNat))) (aA rfl) (SqL.of (by rw[hl,yA])) ?_ ?_ ?_ ?_
   ·rw[List.length_map];exact Nat.le_trans hz (by decide)
   ·rw[List.length_map,List.length_map]
   ·intro j x r hx hr H' sm;rw[List.getElem?_map] at hx hr
    cases hj:ks[j]? with
    |none=>rw[hj] at hx;cases hx
    |some i=>
     rw[hj] at hx hr;cases hx;cases hr;have:=hk i (List.mem_of_getElem? hj);exact⟨fun Q q=>q,fun _=>pC aO (aA rfl) ⟨by omega,by omega,by decide⟩⟩
   ·intro D H' nD sm e;refine q D H' nD sm ?_;rw[e,mC,List.map_map];rfl
  ·show V.int _=V.int _;unfold CS.mD;congr 2;refine List.map_congr_left fun k _=>?_;rw[Int.one_mul,Int.toNat_natCast]
def El(n:bL):Sp:=fun vs H Q _=>∃a L Z s,vs=[.ref a,.int s]∧cK n H a L Z∧Z.aM.length≤1000∧iM H (nV (CS.fB Z s)) Q
theorem jM(T:Txt K mg n):bK P w K mg aT CX0 1 n.vV n.xA ["people","standing"] (El n):=by
 refine T.iG.ok pL (fun vs H Q E h=>?_) (fun cdv A bF s H vs Q E hr h=>?_)
 ·obtain⟨a,L,Z,s,rfl,_⟩:=h;rfl
 ·obtain⟨a,L,Z,s,rfl,hP,hz,k⟩:=h;obtain⟨da,ha⟩:=hP.obj;have hst:H L.s=some (.lst (Z.aM.map V.int)):=hP.aM;refine⟨_,(aK (aN (mQ (g:=z8 K 2 (sJ (dB 2) (sJ (dB 3) q5))) (tt:=(qW (tOp _ _ _))) (te:=_) rfl pL.nd (MD rfl T.nG (aB (aI (pv 0) rfl) aG)) (gB (own:=[("person",2),("now",3)]) rfl) (fun _ _ _ _ _=>(UV rfl (nQ (pgn (i:=2) pL.nd) (nQ (pgn (i:=3) pL.nd) LR)))) (fun _ _ _ _ _=>(uR (bE cY (pv 3) (pv 1) (bD _)))) (fun _ _ _ _ _=>(pv 2))))),?_⟩;show tLc _ _ _ _ _ _ H Q;refine ML (xs:=Z.aM.map V.int) (rs:=(List.range Z.aM.length).map fun j=>(decide (Z.aM.getD j 0=s),V.int (j:Nat))) (by decide) (aD (aJ (aA rfl) ha T.aY T.dA rfl) aL) (SqL.of hst) ?_ ?_ ?_ ?_
  ·rw[List.length_map];exact Nat.le_trans hz (by decide)
  ·rw[List.length_map,List.length_map,List.length_range]
  ·intro j x r hx hr H' sm;rw[List.getElem?_map] at hx
   cases hj:Z.aM[j]? with
   |none=>rw[hj] at hx;cases hx
   |some y=>
    rw[hj] at hx;cases hx;have hjl:j < Z.aM.length:=(List.getElem?_eq_some_iff.mp hj).1;rw[List.getElem?_map,List.getElem?_range hjl] at hr;cases hr;have ey:Z.aM.getD j 0=y:=by rw[List.getD_eq_getElem?_getD,hj];rfl
    dsimp only;rw[ey];exact⟨bB (cP (aA rfl) (aA rfl)),fun _=>aA rfl⟩
  ·intro D H' nD sm e;refine k.at nD sm e ?_;rw[oV (fun j:Nat=>decide (Z.aM.getD j 0=s)) (fun j=>V.int (j:Nat)),yA];rfl
theorem RP{Z:CS.cZ}{s:Int}{k:Nat}(h:k∈CS.fB Z s):k < Z.aM.length:=List.mem_range.mp (List.mem_filter.mp h).1
theorem zC(Z:CS.cZ)(s:Int):(CS.fB Z s).length≤Z.aM.length:=by
 unfold CS.fB;refine Nat.le_trans (List.length_filter_le _ _) ?_;rw[List.length_range];exact Nat.le_refl _
def ld(n:bL):Sp:=fun vs H Q _=>∃a L Z,vs=[.ref a]∧cK n H a L Z∧POk Z∧iM H (nV (CS.nM Z)) Q
theorem GS(T:Txt K mg n):bK P w K mg aT CX0 2 n.xW n.yB ["people"] (ld n):=by
 refine T.sH.ok vU (fun vs H Q E h=>?_) (fun cdv A bF s H vs Q E hr h=>?_)
 ·obtain⟨a,L,Z,rfl,_⟩:=h;rfl
 ·obtain⟨a,L,Z,rfl,hP,hok,k⟩:=h;obtain⟨da,ha⟩:=hP.obj;have hm1:H L.m=some (.lst (Z.bR.map V.int)):=hP.bR;have hsl:Z.aM.length≤1000:=by rw[hok.sl];exact hok.few.1
  refine⟨_,(aK (aN (mQ (g:=dB 1) (tt:=(qW (tOp _ (tOp (rIxL K) (lS K _ _) _) _))) (te:=_) rfl vU.nd (iI (pcl (jM T) hr T.kM T.iG (kK T) (aB (pv 0) (aB (aV rfl T.pD) aG)))) (gB (own:=[("person",1)]) rfl) (fun _ _ _ _ _=>(pgn (i:=1) vU.nd)) (fun _ _ _ _ _=>(uR (bE cY (cT bV (aI (pv 0) rfl) (pv 1) (fun _ _=>rfl)) (aV rfl T.GD) (bD _)))) (fun _ _ _ _ _=>(pv 1))))),?_⟩;refine cG (vs:=[.ref a,.int 0]) (aD (aA rfl) (aD aO aL)) ⟨a,L,Z,0,rfl,hP,hsl,fun H1 r sm1 nr hr1=>?_⟩;have ha1:=sm1 _ _ ha;have hm2:=sm1 _ _ hm1;refine iB (tl:=tC (.ref r)) (H:=H1) (xs:=(CS.fB Z 0).map fun(k:Nat)=>V.int ((k:Nat):Int)) (rs:=(CS.fB Z 0).map fun j=>(decide (Z.bR.getD j 0= -1),V.int ((j:Nat):Int))) aO (SqL.of (by rw[hr1,yA])) ?_ ?_ ?_ ?_
  ·rw[List.length_map];exact Nat.le_trans (zC Z 0) (Nat.le_trans hsl (by decide))
  ·rw[List.length_map,List.length_map]
  ·intro j x r hx hr H' sm;rw[List.getElem?_map] at hx hr
   cases hj:(CS.fB Z 0)[j]? with
   |none=>rw[hj] at hx;cases hx
   |some i=>
    rw[hj] at hx hr;cases hx;cases hr;have hi:=RP (List.mem_of_getElem? hj);have hi2:i < Z.bR.length:=by rw[hok.ml,←hok.sl];exact hi
    have hat:=qC (xs:=Z.bR) (x:=((i:Nat):Int)) (by omega) (by omega);rw[Int.toNat_natCast] at hat;exact⟨bB (cP (cS (aJ (aA rfl) (sm _ _ ha1) T.aY T.fE rfl) (aA rfl) (SqL.of (sm _ _ hm2)) hat) aO),fun _=>aA rfl⟩
  ·intro D H' nD sm e;refine(k.same sm1).at nD sm e ?_;rw[oV (fun j:Nat=>decide (Z.bR.getD j 0= -1)) (fun j=>V.int (j:Nat)),yA];rfl
def Hq(n:bL):Sp:=fun vs H Q _=>∃a L Z,vs=[.ref a]∧cK n H a L Z∧POk Z∧iM H (nV (CS.lD Z)) Q
theorem O6(T:Txt K mg n):bK P w K mg aT CX0 4 n.BJ n.BN ["people"] (Hq n):=by
 refine T.zM.ok xT (fun vs H Q E h=>?_) (fun cdv A bF s H vs Q E hr h=>?_)
 ·obtain⟨a,L,Z,rfl,_⟩:=h;rfl
 ·obtain⟨a,L,Z,rfl,hP,hok,k⟩:=h;obtain⟨da,ha⟩:=hP.obj;obtain⟨as,hc,hall⟩:=id hP.cabins;have hlen:(((as.map V.ref).length:Nat):Int)=((Z.cabins.length:Nat):Int):=by rw[List.length_map,hall.1]
  refine⟨_,(aK (aN (mQ (g:=dB 1) (tt:=(tNot (tB (jH _ _ _ (dD _ (dD _ eU)))))) (te:=_) rfl xT.nd (zI rfl T.rV (aB (bW cM (by rfl) T.eE PySem.boot_len (aB (aI (pv 0) rfl) aG)) aG)) (gB (own:=[("number",1)]) rfl) (fun _ _ _ _ _=>(pgn (i:=1) xT.nd)) (fun _ _ _ _ _=>(uR (rR (dW (pcl (f7 T) hr T.F2 T.BU (E3 T) (aB (pv 0) (aB (pv 1) aG))))))) (fun _ _ _ _ _=>(pv 1))))),?_⟩;show tLc _ _ _ _ _ _ H Q;refine i5 (n:=Z.cabins.length) (rs:=(List.range Z.cabins.length).map fun j=>(!CS.rX Z ((j:Nat):Int),V.int ((j:Nat):Int))) (aD (dR (eT (aJ (aA rfl) ha T.aY T.eX rfl) (SqL.of hc)) (congrArg V.int hlen)) aL) hok.few.2.2 ?_ ?_ ?_
  ·rw[List.length_map,List.length_range]
  ·intro j r hj hr H' sm;rw[List.getElem?_map,List.getElem?_range hj] at hr;cases hr;exact⟨rU (dX (bI (aD (aA rfl) (aD (aA rfl) aL)) ⟨a,L,Z,_,rfl,hP.same sm,hok,rfl⟩)),fun _=>aA rfl⟩
  ·intro D H' nD sm e;refine k.at nD sm e ?_;rw[oV (fun j:Nat=>!CS.rX Z ((j:Nat):Int)) (fun j=>V.int (j:Nat)),yA];rfl
theorem Gv{Z:CS.cZ}{k:Nat}(h:k∈CS.lD Z):k < Z.cabins.length:=List.mem_range.mp (List.mem_filter.mp h).1
theorem Dn(Z:CS.cZ):(CS.lD Z).length≤Z.cabins.length:=by
 unfold CS.lD;refine Nat.le_trans (List.length_filter_le _ _) ?_;rw[List.length_range];exact Nat.le_refl _
theorem S2{sp:Sp}{E:XK}{tl:TA}{σ:L2.St}{H:Hp}{vs:List V}{xs:List Int}(ha:EA tl σ H vs)(h:∀Q:VK,iM H xs Q→sp vs H Q E):EV (ZA (tCB (rLen K) (dD (jH sp [] E tl) eU))) σ H (.int ((xs.length:Nat):Int)):=
 ZT (by
  show jH sp [] E tl σ H _;exact cG ha (h _ fun H' r sm nr hr=>⟨r,_,rfl,.inl (SqL.of hr),by rw[List.length_map],sm⟩))
theorem xz{sp:Sp}{E E':XK}{tl:TA}{σ:L2.St}{H:Hp}{vs:List V}{ks:List Nat}(ha:EA tl σ H vs)(h:∀Q:VK,iM H (nV ks) Q→sp vs H Q E)(hz:ks.length≤1000)(hk:∀k∈ks,k≤1000):EV (ZA (jH (spP T4) [] E' (dD (jH sp [] E tl) eU))) σ H (.int (CS.mD ks)):=
 ZT (by
  show jH sp [] E tl σ H _;exact cG ha (h _ fun H' r sm nr hr=>⟨_,⟨r,ks,rfl,hr,hz,hk,rfl⟩,rfl,sm⟩))
theorem mj(T:Txt K mg n):bK P w K mg aT CX0 2 n.MO n.RI ["vessel"] (fun vs H Q _=>∃L Z,vs=[.ref L.v]∧bH n H L Z∧Z.aF.aM.length≤1000∧iM H (CS.CL Z) Q):=by
 refine T.ND.ok IH (fun vs H Q E h=>?_) (fun cdv A bF s H vs Q E hr h=>?_)
 ·obtain⟨L,Z,rfl,_⟩:=h;rfl
 ·obtain⟨L,Z,rfl,hV,hz,k⟩:=h;obtain⟨dv,hv⟩:=hV.obj;obtain⟨dw,hw⟩:=hV.way.obj;obtain⟨dp,hp⟩:=hV.aF.obj;refine⟨_,(aE (pst (i:=1) IH.nd (aI (pv 0) rfl))
   (aE (pst (i:=2) IH.nd (tO (dW (pcl (YF T) hr T.a8 T.yU (k8 T) (aB (pv 1) aG))) aQ aQ))
   (aK (aN (bJ (aB (pv 2) (aB (kJ (bW cM (by rfl) T.eE PySem.boot_len (aB (pcl (jM T) hr T.kM T.iG (kK T) (aB (pv 1) (aB (aV rfl T.nO) aG))) aG))) (aB (aI (pv 1) rfl) (aB (aI (aI (pv 0) rfl) rfl) aG))))))))),?_⟩
  refine cI (aJ (aA rfl) hv T.bO T.cE rfl) ?_;dsimp only
  refine cI (v:=.int (if CS.lA Z.aF=true then 1 else 0)) (dR (E7 (dX (bI (aD (aA rfl) aL) ⟨L.p,L.pl,Z.aF,rfl,hV.aF,rfl⟩)) (fun _=>aO) (fun _=>aO)) (by cases CS.lA Z.aF <;> rfl)) ?_
  dsimp only;exact k.ret (aD (aA rfl) (aD (dR (S2 (xs:=nV (CS.fB Z.aF 1)) (aD (aA rfl) (aD aO aL)) fun Q q=>⟨L.p,L.pl,Z.aF,1,rfl,hV.aF,hz,q⟩) (by rw[VC])) (aD (aJ (aA rfl) hp T.aY T.gA rfl) (aD (aJ (aJ (aA rfl) hv T.bO T.dF rfl) hw T.dM T.iL rfl) aL)))) (by show 4≤1000;decide) rfl
theorem sI{ta:TE}{σ:L2.St}{H:Hp}{r:Addr}{ks:List Nat}(ha:EV ta σ H (.ref r))(hr:H r=some (.lst ((nV ks).map V.int))):EV (tCB (rLen K) (dD ta eU)) σ H (.int ((ks.length:Nat):Int)):=
 dR (eT ha (SqL.of hr)) (by rw[List.length_map,VC])
theorem cn(T:Txt K mg n):bK P w K mg aT CX0 2 n.JQ n.LA ["vessel"] (fun vs H Q _=>∃L Z,vs=[.ref L.v]∧bH n H L Z∧Z.aF.aM.length≤1000∧iM H (CS.xZ Z) Q):=by
 refine T.IO.ok DT (fun vs H Q E h=>?_) (fun cdv A bF s H vs Q E hr h=>?_)
 ·obtain⟨L,Z,rfl,_⟩:=h;rfl
 ·obtain⟨L,Z,rfl,hV,hz,k⟩:=h;obtain⟨dv,hv⟩:=hV.obj;obtain⟨dp,hp⟩:=hV.aF.obj;refine⟨_,(aE (pst (i:=1) DT.nd (aI (pv 0) rfl))
   (aE (pst (i:=2) DT.nd (pcl (jM T) hr T.kM T.iG (kK T) (aB (pv 1) (aB (aV rfl T.pD) aG))))
   (aK (aN (bJ (aB (bW cM (by rfl) T.eE PySem.boot_len (aB (pv 2) aG)) (aB (pcl (sG T) hr T.uT T.oW (uX T) (aB (pv 2) aG)) (aB (dG mX (aI (pv 1) rfl) (bW cM (by rfl) T.eE PySem.boot_len (aB (pv 2) aG))) aG)))))))),?_⟩
  refine cI (aJ (aA rfl) hv T.bO T.cE rfl) ?_;dsimp only;refine gR (cG (vs:=[.ref L.p,.int 0]) (aD (aA rfl) (aD aO aL)) ⟨L.p,L.pl,Z.aF,0,rfl,hV.aF,hz,fun H1 r sm nr hr1=>?_⟩);dsimp only[dB];have hl:=Nat.le_trans (zC Z.aF 0) hz;exact(k.same sm).ret (aD (sI (aA rfl) hr1) (aD (bI (aD (aA rfl) aL) ⟨r,_,rfl,hr1,hl,fun j hj=>by have:=RP hj;omega,rfl⟩) (aD (bU (aJ (aA rfl) (sm _ _ hp) T.aY T.jQ rfl) (sI (aA rfl) hr1)) aL))) (by show 3≤1000;decide) rfl
theorem Y1(T:Txt K mg n):bK P w K mg aT CX0 2 n.DS n.GG ["vessel"] (fun vs H Q _=>∃L Z,vs=[.ref L.v]∧bH n H L Z∧Z.aF.aM.length≤1000∧iM H (CS.vA Z) Q):=by
 refine T.EL.ok TK (fun vs H Q E h=>?_) (fun cdv A bF s H vs Q E hr h=>?_)
 ·obtain⟨L,Z,rfl,_⟩:=h;rfl
 ·obtain⟨L,Z,rfl,hV,hz,k⟩:=h;obtain⟨dv,hv⟩:=hV.obj;refine⟨_,(aE (pst (i:=1) TK.nd (pcl (jM T) hr T.kM T.iG (kK T) (aB (aI (pv 0) rfl) (aB (aV rfl T.nO) aG))))
   (aK (aN (bJ (aB (bW cM (by rfl) T.eE PySem.boot_len (aB (pv 1) aG)) (aB (pcl (sG T) hr T.uT T.oW (uX T) (aB (pv 1) aG)) aG)))))),?_⟩
  refine gR (cG (vs:=[.ref L.p,.int 1]) (aD (aJ (aA rfl) hv T.bO T.cE rfl) (aD aO aL)) ⟨L.p,L.pl,Z.aF,1,rfl,hV.aF,hz,fun H1 r sm nr hr1=>?_⟩);dsimp only[dB];have hl:=Nat.le_trans (zC Z.aF 1) hz;exact(k.same sm).ret (aD (sI (aA rfl) hr1) (aD (bI (aD (aA rfl) aL) ⟨r,_,rfl,hr1,hl,fun j hj=>by have:=RP hj;omega,rfl⟩) aL)) (by show 2≤1000;decide) rfl
theorem ii(T:Txt K mg n):bK P w K mg aT CX0 3 n.IR n.KQ ["vessel"] (fun vs H Q _=>∃L Z,vs=[.ref L.v]∧bH n H L Z∧POk Z.aF∧iM H (CS.tZ Z) Q):=by
 refine T.JP.ok FX (fun vs H Q E h=>?_) (fun cdv A bF s H vs Q E hr h=>?_)
 ·obtain⟨L,Z,rfl,_⟩:=h;rfl
 ·obtain⟨L,Z,rfl,hV,hok,k⟩:=h;obtain⟨dv,hv⟩:=hV.obj;obtain⟨dp,hp⟩:=hV.aF.obj;have hz:Z.aF.aM.length≤1000:=by rw[hok.sl];exact hok.few.1
  unfold CS.tZ at k;refine⟨_,(aE (pst (i:=1) FX.nd (aI (pv 0) rfl))
   (aE (bS (bE cY (aI (pv 1) rfl) aQ (bD _)) (aK (aN (bJ (aB (aV rfl T.CD) aG)))) bG)
   (aE (pst (i:=2) FX.nd (pcl (GS T) hr T.MA T.sH (LZ T) (aB (pv 1) aG)))
   (aK (aN (bJ (aB (bW cM (by rfl) T.eE PySem.boot_len (aB (pv 2) aG)) (aB (pcl (sG T) hr T.uT T.oW (uX T) (aB (pv 2) aG)) (aB (aI (pv 1) rfl) aG))))))))),?_⟩
  refine cI (aJ (aA rfl) hv T.bO T.cE rfl) ?_;dsimp only;refine cD (bB (cP (aJ (aA rfl) hp T.aY T.fM rfl) aO)) (fun e=>?_) (fun e=>?_)
  ·rw[if_pos (of_decide_eq_true e)] at k;exact k.ret (aD aO aL) (by show 1≤1000;decide) rfl
  rw[if_neg (of_decide_eq_false e)] at k;dsimp only[bT];refine gR (cG (vs:=[.ref L.p]) (aD (aA rfl) aL) ⟨L.p,L.pl,Z.aF,rfl,hV.aF,hok,fun H1 r sm nr hr1=>?_⟩);dsimp only[dB];have hl:(CS.nM Z.aF).length≤1000:=Nat.le_trans (List.length_filter_le _ _) (Nat.le_trans (zC Z.aF 0) hz);have hj:∀j∈CS.nM Z.aF,j≤1000:=fun j hj=>by have:=RP (List.mem_filter.mp hj).1;omega
  exact(k.same sm).ret (aD (sI (aA rfl) hr1) (aD (bI (aD (aA rfl) aL) ⟨r,_,rfl,hr1,hl,hj,rfl⟩) (aD (aJ (aA rfl) (sm _ _ hp) T.aY T.fM rfl) aL))) (by show 3≤1000;decide) rfl
theorem Bc(T:Txt K mg n):bK P w K mg aT CX0 2 n.t7 n.A1 ["vessel","card"] (fun vs H Q _=>∃L Z c,vs=[.ref L.v,.int c]∧0≤c∧bH n H L Z∧POk Z.aF∧iM H (CS.NK Z c) Q):=by
 refine T.A7.ok XB (fun vs H Q E h=>?_) (fun cdv A bF s H vs Q E hr h=>?_)
 ·obtain⟨L,Z,c,rfl,_⟩:=h;rfl
 ·obtain⟨L,Z,c,rfl,h0,hV,hok,k⟩:=h;obtain⟨dv,hv⟩:=hV.obj;obtain⟨dp,hp⟩:=hV.aF.obj;have hst:H L.pl.s=some (.lst (Z.aF.aM.map V.int)):=hV.aF.aM;unfold CS.NK at k;refine⟨_,(aE (pst (i:=2) XB.nd (aI (pv 0) rfl))
   (aE (bS (rR (dW (pcl (mP T) hr T.nW T.jC (nZ T) (aB (pv 2) (aB (pv 1) aG))))) (aK (aN (bJ (aB (aV rfl T.hC) aG)))) bG)
   (aE (pst (i:=3) XB.nd (tO (bE cY (cT bV (aI (pv 2) rfl) (pv 1) (fun _ _=>rfl)) (aV rfl T.nO) (bD _)) aQ aQ))
   (aK (aN (bJ (aB (pv 1) (aB (aI (cT bV (aI (pv 2) rfl) (pv 1) (fun _ _=>rfl)) rfl) (aB (pv 3) aG))))))))),?_⟩
  refine cI (aJ (aA rfl) hv T.bO T.cE rfl) ?_;dsimp only;refine cD (rU (dX (bI (aD (aA rfl) (aD (aA rfl) aL)) ⟨L.p,L.pl,Z.aF,c,rfl,hV.aF,hok,h0,rfl⟩))) (fun e=>?_) (fun e=>?_)
  ·rw[if_pos (by simpa using e)] at k;exact k.ret (aD aO aL) (by show 1≤1000;decide) rfl
  have e':CS.fN Z.aF c=true:=by simpa using e
  rw[if_neg (by rw[e'];decide)] at k;have hlt:c < (Z.aF.persons.length:Int):=by
   unfold CS.fN at e';rw[Bool.and_eq_true] at e';exact of_decide_eq_true e'.1
  dsimp only[bT];have hat:=qC (xs:=Z.aF.aM) (x:=c) h0 (by rw[hok.sl];exact hlt);obtain⟨as,b,db,hr1,hb,hb2⟩:=hV.aF.persons.atI (d:=⟨0,false⟩) h0 hlt
  refine cI (v:=.int (if Z.aF.aM.getD c.toNat 0=1 then 1 else 0)) (dR (E7 (bB (cP (cS (aJ (aA rfl) hp T.aY T.dA rfl) (aA rfl) (SqL.of hst) hat) aO)) (fun _=>aO) (fun _=>aO)) (by
   by_cases q:Z.aF.aM.getD c.toNat 0=1
   ·rw[if_pos (decide_eq_true q),if_pos q]
   ·rw[if_neg (by rw[decide_eq_false q];decide),if_neg q])) ?_
  dsimp only;exact k.ret (aD (aA rfl) (aD (aJ (cS (aJ (aA rfl) hp T.aY T.dP rfl) (aA rfl) (SqL.of hr1) hb) hb2 T.zD T.nE rfl) (aD (aA rfl) aL))) (by show 3≤1000;decide) rfl
theorem pf(T:Txt K mg n):bK P w K mg aT CX0 3 n.RC n.PU ["vessel","p"] (fun vs H Q _=>∃L Z c,vs=[.ref L.v,.int c]∧0≤c∧bH n H L Z∧POk Z.aF∧(∀p∈Z.aF.parties,0≤p.many∧p.first+p.many≤(Z.aF.persons.length:Int))∧iM H (CS.xI Z c) Q):=by
 refine T.PX.ok JE (fun vs H Q E h=>?_) (fun cdv A bF s H vs Q E hr h=>?_)
 ·obtain⟨L,Z,c,rfl,_⟩:=h;rfl
 ·obtain⟨L,Z,c,rfl,h0,hV,hok,hspan,k⟩:=h;obtain⟨dv,hv⟩:=hV.obj;obtain⟨dp,hp⟩:=hV.aF.obj;unfold CS.xI at k;refine⟨_,(aE (pst (i:=2) JE.nd (aI (pv 0) rfl))
   (aE (bS (rR (dW (pcl (nY T) hr T.pA T.jV (oY T) (aB (pv 2) (aB (pv 1) aG))))) (aK (aN (bJ (aB (aV rfl T.hC) aG)))) bG)
   (aE (pst (i:=3) JE.nd (cT bV (aI (pv 2) rfl) (pv 1) (fun _ _=>rfl)))
   (aK (aN (bJ (aB (aI (pv 3) rfl) (aB (kJ (pcl (sG T) hr T.uT T.oW (uX T) (aB (pcl (J4 T) hr T.S8 T.HI (W1 T) (aB (pv 3) aG)) aG))) (aB (aI (pv 3) rfl) aG))))))))),?_⟩
  refine cI (aJ (aA rfl) hv T.bO T.cE rfl) ?_;dsimp only;refine cD (rU (dX (bI (aD (aA rfl) (aD (aA rfl) aL)) ⟨L.p,L.pl,Z.aF,c,rfl,hV.aF,hok,h0,rfl⟩))) (fun e=>?_) (fun e=>?_)
  ·rw[if_pos (by simpa using e)] at k;exact k.ret (aD aO aL) (by show 1≤1000;decide) rfl
  have e':CS.fU Z.aF c=true:=by simpa using e
  rw[if_neg (by rw[e'];decide)] at k;have hlt:c < (Z.aF.parties.length:Int):=by
   unfold CS.fU at e';rw[Bool.and_eq_true] at e';exact of_decide_eq_true e'.1
  dsimp only[bT];obtain⟨as,b,db,hr1,hb,hb2⟩:=hV.aF.parties.atI (d:=⟨0,0,0⟩) h0 hlt;have hmem:=getD_mem (d:=(⟨0,0,0⟩:CS.Party)) (show c.toNat < Z.aF.parties.length by omega);have hsp:=hspan _ hmem;have hfi:=hok.first _ hmem;have hfew:=hok.few.1;generalize Z.aF.parties.getD c.toNat ⟨0,0,0⟩=q at*;refine cI (cS (aJ (aA rfl) hp T.aY T.dL rfl) (aA rfl) (SqL.of hr1) hb) ?_;dsimp only;have hmm:nV (CS.zJ (CS.iV q))=CS.iV q:=by
   unfold nV CS.zJ CS.iV;rw[List.map_map,List.map_map];refine List.map_congr_left fun j _=>?_;show((q.first+(j:Int)).toNat:Int)=q.first+(j:Int);omega
  refine k.ret (aD (aJ (aA rfl) hb2 T.lU T.pS rfl) (aD (xz (ks:=CS.zJ (CS.iV q)) (aD (aA rfl) aL) (fun Q qq=>⟨b,q,rfl,⟨db,hb2⟩,⟨by omega,by omega⟩,hsp.1,by omega,by rw[hmm] at qq;exact qq⟩) ?_ ?_) (aD (aJ (aA rfl) hb2 T.lU T.oI rfl) aL))) (by show 3≤1000;decide) rfl
  ·unfold CS.zJ CS.iV;rw[List.length_map,List.length_map,List.length_range];omega
  ·intro j hj;unfold CS.zJ CS.iV at hj;rw[List.map_map] at hj;obtain⟨i,hi,rfl⟩:=List.mem_map.mp hj;have:=List.mem_range.mp hi;show(q.first+(i:Int)).toNat≤1000;omega
theorem ja(T:Txt K mg n):bK P w K mg aT CX0 5 n.JH n.KH ["vessel"] (fun vs H Q _=>∃L Z,vs=[.ref L.v]∧bH n H L Z∧POk Z.aF∧iM H (CS.yE Z) Q):=by
 refine T.IX.ok rN (fun vs H Q E h=>?_) (fun cdv A bF s H vs Q E hr h=>?_)
 ·obtain⟨L,Z,rfl,_⟩:=h;rfl
 ·obtain⟨L,Z,rfl,hV,hok,k⟩:=h;obtain⟨dv,hv⟩:=hV.obj;obtain⟨dp,hp⟩:=hV.aF.obj;obtain⟨as,hpl,hpall⟩:=id hV.aF.parties;obtain⟨cs,hcl,hcall⟩:=id hV.aF.cabins;have hlen:(((as.map V.ref).length:Nat):Int)=((Z.aF.parties.length:Nat):Int):=by rw[List.length_map,hpall.1]
  have hlenc:(((cs.map V.ref).length:Nat):Int)=((Z.aF.cabins.length:Nat):Int):=by rw[List.length_map,hcall.1]
  refine⟨_,(aE (pst (i:=1) rN.nd (aI (pv 0) rfl))
   (aE (pst (i:=2) rN.nd (pcl (O6 T) hr T.Y8 T.zM (Z8 T) (aB (pv 1) aG)))
   (aE (v7 (i:=3) (g:=dB 4) (tt:=(tB (jH _ _ _ (dD _ (dD _ eU))))) (te:=_) rfl rN.nd rfl rfl (L9 rfl rfl rfl rfl) (zI rfl T.rV (aB (bW cM (by rfl) T.eE PySem.boot_len (aB (aI (pv 1) rfl) aG)) aG)) (gB (own:=[("party",4)]) rfl) (fun _ _ _ _ _=>(pgn (i:=4) rN.nd)) (fun _ _ _ _ _=>(uR (dW (pcl (nY T) hr T.pA T.jV (oY T) (aB (pv 1) (aB (pv 4) aG)))))) (fun _ _ _ _ _=>(pv 4)))
   (aK (aN (bJ (aB (bW cM (by rfl) T.eE PySem.boot_len (aB (pv 2) aG)) (aB (pcl (sG T) hr T.uT T.oW (uX T) (aB (pv 2) aG)) (aB (bW cM (by rfl) T.eE PySem.boot_len (aB (aI (pv 1) rfl) aG)) (aB (bW cM (by rfl) T.eE PySem.boot_len (aB (pv 3) aG)) aG)))))))))),?_⟩
  refine cI (aJ (aA rfl) hv T.bO T.cE rfl) ?_;dsimp only;refine gR (cG (vs:=[.ref L.p]) (aD (aA rfl) aL) ⟨L.p,L.pl,Z.aF,rfl,hV.aF,hok,fun H1 r sm nr hr1=>?_⟩);dsimp only[dB];have hp1:=sm _ _ hp;refine gR (i5 (n:=Z.aF.parties.length) (rs:=(List.range Z.aF.parties.length).map fun j=>(CS.fU Z.aF ((j:Nat):Int),V.int ((j:Nat):Int))) (aD (dR (eT (aJ (aA rfl) hp1 T.aY T.dL rfl) (SqL.of (sm _ _ hpl))) (congrArg V.int hlen)) aL) hok.few.2.1 ?_ ?_ ?_)
  ·rw[List.length_map,List.length_range]
  ·intro j q hj hr H' sm2;rw[List.getElem?_map,List.getElem?_range hj] at hr;cases hr;exact⟨dX (bI (aD (aA rfl) (aD (aA rfl) aL)) ⟨L.p,L.pl,Z.aF,_,rfl,hV.aF.same (sm.trans sm2),hok,by omega,rfl⟩),fun _=>aA rfl⟩
  ·intro D H' nD sm2 e;rw[oV (fun j:Nat=>CS.fU Z.aF ((j:Nat):Int)) (fun j=>V.int (j:Nat)),←yA] at e;have e':H' D=some (.lst ((nV (CS.ZR Z.aF)).map V.int)):=e;have hl:=Nat.le_trans (Dn Z.aF) hok.few.2.2;have hj:∀j∈CS.lD Z.aF,j≤1000:=fun j hj=>by have:=Gv hj;have:=hok.few.2.2;omega
   dsimp only[dB];exact((k.same sm).same sm2).ret (aD (sI (aA rfl) (sm2 _ _ hr1)) (aD (bI (aD (aA rfl) aL) ⟨r,_,rfl,sm2 _ _ hr1,hl,hj,rfl⟩) (aD (dR (eT (aJ (aA rfl) (sm2 _ _ hp1) T.aY T.eX rfl) (SqL.of (sm2 _ _ (sm _ _ hcl)))) (congrArg V.int hlenc)) (aD (sI (aA rfl) e') aL)))) (by show 4≤1000;decide) rfl
theorem cK.mr{H:Hp}{a:Addr}{L:fG}{Z:CS.cZ}{st:List Int}(h:cK n H a L Z)(hnd:L.Nd):cK n (upd H L.m (.lst (st.map V.int))) a L { Z with bR:=st }∧Chg [L.m] H (upd H L.m (.lst (st.map V.int))):=by
 have c:Chg [L.m] H (upd H L.m (.lst (st.map V.int))):=Chg.upd (by simp) h.bR rfl;obtain⟨n1,n2,n3,n4,n5⟩:=h.rJ;obtain⟨d1,d2,d3,d4,d5,d6,d7,d8,d9,d10⟩:=hnd.ne;obtain⟨da,ha⟩:=h.obj;refine⟨⟨h.obj.chg c (.inl (by simpa using fV ha h.bR (by intro z;cases z))),h.cabins.chg c ?_ lJ,h.parties.chg c ?_ lK,h.persons.chg c ?_ jX,c.keep _ _ h.aM (.inl ?_),aH⟩,c⟩
 all_goals (simp only[List.mem_singleton];first |assumption |exact Ne.symm (by assumption))
def Dq(n:bL):Sp:=fun vs H Q _=>∃L Z x,vs=[.ref L.v,.int x]∧0≤x∧bH n H L Z∧POk Z.aF∧oS n H L (CS.QZ Z x) Q
theorem Em(T:Txt K mg n):bK P w K mg aT CX0 3 n.Q1 n.O1 ["vessel","p"] (Dq n):=by
 refine T.N3.ok y9 (fun vs H Q E h=>?_) (fun cdv A bF s H vs Q E hr h=>?_)
 ·obtain⟨L,Z,x,rfl,_⟩:=h;rfl
 ·obtain⟨L,Z,x,rfl,h0,hV,hok,k⟩:=h;obtain⟨dv,hv⟩:=hV.obj;obtain⟨dw,hw⟩:=hV.way.obj;obtain⟨dp,hp⟩:=hV.aF.obj;have hst:H L.pl.s=some (.lst (Z.aF.aM.map V.int)):=hV.aF.aM;have hm:H L.pl.m=some (.lst (Z.aF.bR.map V.int)):=hV.aF.bR;unfold CS.QZ at k;dsimp only at k;refine⟨_,(aE (pst (i:=2) y9.nd (aI (pv 0) rfl))
   (aE (pst (i:=3) y9.nd (dG oN (aI (aI (pv 0) rfl) rfl) (aV rfl T.sT)))
   (aE (bS (rR (dW (pcl (mP T) hr T.nW T.jC (nZ T) (aB (pv 2) (aB (pv 1) aG))))) (aK (aN (bJ (aB (aV rfl T.hC) aG)))) bG)
   (aE (bS (bE cY (cT bV (aI (pv 2) rfl) (pv 1) (fun _ _=>rfl)) (aV rfl T.nO) (bD _)) (aK (aN (bJ (aB (aV rfl T.jE) aG)))) bG)
   (aE (bS (bE cY (aI (pv 2) rfl) aQ (bD _)) (aK (aN (bJ (aB (aV rfl T.CD) aG)))) bG)
   (aE (bS (bE rD (cT bV (aI (pv 2) rfl) (pv 1) (fun _ _=>rfl)) (pv 3) (bD _)) (aK (aN (bJ (aB (aV rfl T.rP) aG)))) bG)
   (aE (YM (pv 3) (UG (aI (pv 2) rfl) (pv 1) DB))
   (aK (aN (bJ (aB (kJ (bW cM (by rfl) T.eE PySem.boot_len (aB (pcl (GS T) hr T.MA T.sH (LZ T) (aB (pv 2) aG)) aG))) aG))))))))))),?_⟩
  refine cI (aJ (aA rfl) hv T.bO T.cE rfl) ?_;dsimp only;refine cI (pC (aJ (aJ (aA rfl) hv T.bO T.dF rfl) hw T.dM T.dS rfl) aO (.inr ⟨by decide,by decide⟩)) ?_;dsimp only;refine cD (rU (dX (bI (aD (aA rfl) (aD (aA rfl) aL)) ⟨L.p,L.pl,Z.aF,x,rfl,hV.aF,hok,h0,rfl⟩))) (fun e=>?_) (fun e=>?_)
  ·rw[if_pos (by simpa using e)] at k;exact k.no hV rfl rfl
  have e':CS.fN Z.aF x=true:=by simpa using e
  rw[if_neg (by rw[e'];decide)] at k;have hlt:x < (Z.aF.persons.length:Int):=by
   unfold CS.fN at e';rw[Bool.and_eq_true] at e';exact of_decide_eq_true e'.1
  have hat:=qC (xs:=Z.aF.aM) (x:=x) h0 (by rw[hok.sl];exact hlt);have hatm:=qC (xs:=Z.aF.bR) (x:=x) h0 (by rw[hok.ml];exact hlt);dsimp only[bT];refine cD (bB (cP (cS (aJ (aA rfl) hp T.aY T.dA rfl) (aA rfl) (SqL.of hst) hat) aO)) (fun e=>?_) (fun e=>?_)
  ·rw[if_pos (of_decide_eq_true e)] at k;exact k.no hV rfl rfl
  rw[if_neg (of_decide_eq_false e)] at k;dsimp only[bT];refine cD (bB (cP (aJ (aA rfl) hp T.aY T.fM rfl) aO)) (fun e=>?_) (fun e=>?_)
  ·rw[if_pos (of_decide_eq_true e)] at k;exact k.no hV rfl rfl
  rw[if_neg (of_decide_eq_false e)] at k;dsimp only[bT];refine cD (bB (bU (cS (aJ (aA rfl) hp T.aY T.fE rfl) (aA rfl) (SqL.of hm) hatm) (aA rfl))) (fun e=>?_) (fun e=>?_)
  ·rw[if_pos (of_decide_eq_true e)] at k;exact k.no hV rfl rfl
  rw[if_neg (of_decide_eq_false e)] at k;dsimp only[bT];refine GP (k:=x.toNat) (aA rfl) (aJ (aA rfl) hp T.aY T.fE rfl) (aA rfl) hm ?_ ?_
  ·have :x=((x.toNat:Nat):Int):=by omega
   rw[this];refine LJ ?_;rw[List.length_map,hok.ml];omega
  rw[←List.map_set (f:=V.int)];obtain⟨hP1,c⟩:=hV.aF.mr (st:=Z.aF.bR.set x.toNat (Z.way.hour*60)) hV.pnd
  have hV1:bH n _ L { Z with aF:={ Z.aF with bR:=Z.aF.bR.set x.toNat (Z.way.hour*60) } }:=hV.oU (pl:=L.pl) hP1 (c.cF fun q hq=>by
   rw[List.mem_singleton.mp hq];unfold bZ.aP fG.fK;simp) (fun a ha=>.inl ha) hV.pnd
  have c':Chg L.all H (upd H L.pl.m (.lst ((Z.aF.bR.set x.toNat (Z.way.hour*60)).map V.int))):=c.cF fun q hq=>by
   rw[List.mem_singleton.mp hq];exact pU (by unfold bZ.aP fG.fK;simp)
  generalize upd H L.pl.m (.lst ((Z.aF.bR.set x.toNat (Z.way.hour*60)).map V.int))=H1 at*
  have hok1:POk { Z.aF with bR:=Z.aF.bR.set x.toNat (Z.way.hour*60) }:=⟨hok.sl,by rw[List.length_set];exact hok.ml,hok.first,hok.per,hok.few⟩
  refine k.yes hV1 rfl c' (fun a ha=>.inl ha) (aD (dR (S2 (xs:=nV (CS.nM { Z.aF with bR:=Z.aF.bR.set x.toNat (Z.way.hour*60) })) (aD (aA rfl) aL) fun Q q=>⟨L.p,L.pl,_,rfl,hP1,hok1,q⟩) (by rw[VC];rfl)) aL) (by show 1≤1000;decide) rfl
theorem pd(T:Txt K mg n):bK P w K mg aT CX0 2 n.NO n.RS ["vessel","g"] (fun vs H Q _=>∃L Z g,vs=[.ref L.v,.int g]∧0≤g∧bH n H L Z∧(∀G∈Z.stores.goods,G.lots.length≤900)∧iM H (CS.xX Z g) Q):=by
 refine T.SI.ok j9 (fun vs H Q E h=>?_) (fun cdv A bF s H vs Q E hr h=>?_)
 ·obtain⟨L,Z,g,rfl,_⟩:=h;rfl
 ·obtain⟨L,Z,a,rfl,h0,hV,hlots,k⟩:=h;obtain⟨dv,hv⟩:=hV.obj;obtain⟨ds,hs⟩:=hV.stores.obj;have hl:=hV.stores.lst;have hall:=hV.stores.goods;unfold CS.xX at k;refine⟨_,(aE (bS (rR (dW (pcl (uP T) hr T.vK T.mW (wT T) (aB (aI (pv 0) rfl) (aB (pv 1) aG))))) (aK (aN (bJ (aB (aV rfl T.hC) aG)))) bG)
   (aE (pst (i:=2) j9.nd (cT bV (aI (aI (pv 0) rfl) rfl) (pv 1) (fun _ _=>rfl)))
   (aK (aN (bJ (aB (pcl (KA T) hr T.RF T.vE (SD T) (aB (pv 2) aG)) (aB (aI (pv 2) rfl) (aB (aI (pv 2) rfl) (aB (aI (pv 2) rfl) aG))))))))),?_⟩
  refine cD (rU (dX (bI (aD (aJ (aA rfl) hv T.bO T.eB rfl) (aD (aA rfl) aL)) ⟨L.s,L.gl,L.gs,Z.stores,a,rfl,hV.stores,rfl⟩))) (fun e=>?_) (fun e=>?_)
  ·rw[Bool.not_eq_true'] at e;rw[if_pos (Int.not_lt.mp (of_decide_eq_false e))] at k;exact k.ret (aD aO aL) (by show 1≤1000;decide) rfl
  rw[Bool.not_eq_false'] at e;have hlt0:=of_decide_eq_true e;rw[if_neg (show ¬a≥((Z.stores.goods.length:Nat):Int) by omega)] at k;dsimp only[bT];have hi:a.toNat < Z.stores.goods.length:=by omega
  have hG0:Z.stores.goods[a.toNat]? =some (Z.stores.goods[a.toNat]):=List.getElem?_eq_getElem hi;obtain⟨p,hp,hG⟩:=hall.at hG0;have hgetD:Z.stores.goods.getD a.toNat ⟨0,0,[],0,0,0,0⟩=Z.stores.goods[a.toNat]:=by rw[List.getD_eq_getElem?_getD,hG0];rfl
  have hGm:Z.stores.goods[a.toNat]∈Z.stores.goods:=List.getElem_mem hi;rw[hgetD] at k;generalize Z.stores.goods[a.toNat]=G at*;have hGl:G.lots.length≤1000:=Nat.le_trans (hlots G hGm) (by decide);obtain⟨dg,hg⟩:=hG.obj;refine cI (cS (aJ (aJ (aA rfl) hv T.bO T.eB rfl) hs T.gF T.eA rfl) (aA rfl) (SqL.of hl) (A8 h0 hp)) ?_;dsimp only at k ⊢;exact k.ret (aD (bI (aD (aA rfl) aL) ⟨p.1,p.2,G,rfl,hG,hGl,rfl⟩) (aD (aJ (aA rfl) hg T.dE T.kX rfl) (aD (aJ (aA rfl) hg T.dE T.jP rfl) (aD (aJ (aA rfl) hg T.dE T.iA rfl) aL)))) (by show 4≤1000;decide) rfl
theorem lf(T:Txt K mg n):bK P w K mg aT CX0 2 n.NQ n.NI ["vessel"] (fun vs H Q _=>∃L Z,vs=[.ref L.v]∧bH n H L Z∧Z.aF.aM.length≤1000∧iM H (CS.CU Z) Q):=by
 refine T.PL.ok KI (fun vs H Q E h=>?_) (fun cdv A bF s H vs Q E hr h=>?_)
 ·obtain⟨L,Z,rfl,_⟩:=h;rfl
 ·obtain⟨L,Z,rfl,hV,hz,k⟩:=h;obtain⟨dv,hv⟩:=hV.obj;obtain⟨dt,ht⟩:=hV.tanks;refine⟨_,(aE (pst (i:=1) KI.nd (aI (pv 0) rfl))
   (aE (pst (i:=2) KI.nd (pcl (jM T) hr T.kM T.iG (kK T) (aB (aI (pv 0) rfl) (aB (aV rfl T.pD) aG))))
   (aK (aN (bJ (aB (aI (pv 1) rfl) (aB (aI (pv 1) rfl) (aB (aI (pv 1) rfl) (aB (pcl (BR T) hr T.DX T.pF (FE T) (aB (pv 1) (aB (bW cM (by rfl) T.eE PySem.boot_len (aB (pv 2) aG)) aG))) aG))))))))),?_⟩
  refine cI (aJ (aA rfl) hv T.bO T.eV rfl) ?_;dsimp only;refine gR (cG (vs:=[.ref L.p,.int 0]) (aD (aJ (aA rfl) hv T.bO T.cE rfl) (aD aO aL)) ⟨L.p,L.pl,Z.aF,0,rfl,hV.aF,hz,fun H1 r sm nr hr1=>?_⟩);dsimp only[dB];have hl:=Nat.le_trans (zC Z.aF 0) hz;have ht1:=sm _ _ ht;exact(k.same sm).ret (aD (aJ (aA rfl) ht1 T.bQ T.fI rfl) (aD (aJ (aA rfl) ht1 T.bQ T.fX rfl) (aD (aJ (aA rfl) ht1 T.bQ T.fJ rfl) (aD (bI (aD (aA rfl) (aD (sI (aA rfl) hr1) aL)) ⟨L.t,dt,Z.tanks,_,rfl,⟨by omega,by omega⟩,ht1,rfl⟩) aL)))) (by show 4≤1000;decide) rfl
theorem ve(T:Txt K mg n):bK P w K mg aT CX0 2 n.YR n.UF ["vessel"] (fun vs H Q _=>∃L Z,vs=[.ref L.v]∧bH n H L Z∧Z.aF.aM.length≤1000∧sD Z.stores∧iM H (CS.LY Z) Q):=by
 refine T.WW.ok vO (fun vs H Q E h=>?_) (fun cdv A bF s H vs Q E hr h=>?_)
 ·obtain⟨L,Z,rfl,_⟩:=h;rfl
 ·obtain⟨L,Z,rfl,hV,hz,hfew,k⟩:=h;obtain⟨dv,hv⟩:=hV.obj;obtain⟨dt,ht⟩:=hV.tanks;obtain⟨dw,hw⟩:=hV.way.obj;obtain⟨dp,hp⟩:=hV.aF.obj;obtain⟨as,hpl,hpall⟩:=id hV.aF.persons;have hlen:(((as.map V.ref).length:Nat):Int)=((Z.aF.persons.length:Nat):Int):=by rw[List.length_map,hpall.1]
  refine⟨_,(aE (pst (i:=1) vO.nd (aI (pv 0) rfl))
   (aE (pst (i:=2) vO.nd (aI (pv 0) rfl))
   (aE (pst (i:=3) vO.nd (pcl (jM T) hr T.kM T.iG (kK T) (aB (pv 1) (aB (aV rfl T.YG) aG))))
   (aE (pst (i:=4) vO.nd (pcl (FQ T) hr T.HD T.rF (GI T) (aB (aI (pv 0) rfl) aG)))
   (aK (aN (bJ (aB (bW cM (by rfl) T.eE PySem.boot_len (aB (aI (pv 1) rfl) aG)) (aB (bW cM (by rfl) T.eE PySem.boot_len (aB (pv 3) aG)) (aB (aI (pv 2) rfl) (aB (aI (pv 2) rfl) (aB (pv 4) (aB (aI (aI (pv 0) rfl) rfl) aG))))))))))))),?_⟩
  refine cI (aJ (aA rfl) hv T.bO T.cE rfl) ?_;dsimp only;refine cI (aJ (aA rfl) hv T.bO T.eV rfl) ?_;dsimp only;refine gR (cG (vs:=[.ref L.p,.int 2]) (aD (aA rfl) (aD aO aL)) ⟨L.p,L.pl,Z.aF,2,rfl,hV.aF,hz,fun H1 r sm nr hr1=>?_⟩);dsimp only[dB];refine cI (v:=.int (CS.oT Z.stores)) (bI (aD (aJ (aA rfl) (sm _ _ hv) T.bO T.eB rfl) aL) ⟨L.s,L.gl,L.gs,Z.stores,rfl,hV.stores.same sm,hfew,rfl⟩) ?_;dsimp only;exact(k.same sm).ret (aD (dR (eT (aJ (aA rfl) (sm _ _ hp) T.aY T.dP rfl) (SqL.of (sm _ _ hpl))) (congrArg V.int hlen)) (aD (sI (aA rfl) hr1) (aD (aJ (aA rfl) (sm _ _ ht) T.bQ T.gO rfl) (aD (aJ (aA rfl) (sm _ _ ht) T.bQ T.kU rfl) (aD (aA rfl) (aD (aJ (aJ (aA rfl) (sm _ _ hv) T.bO T.dF rfl) (sm _ _ hw) T.dM T.iL rfl) aL)))))) (by show 6≤1000;decide) rfl
end
theorem Dc{σ:L2.St}{H:Hp}{ta tb:TE}{i j:Int}(ha:EV ta σ H (.int i))(hb:EV tb σ H (.int j)):EV (tCB (fun xs H Q=>∃i j,xs=[.int i,.int j]∧Q (.int (if j > i then j else i)) H) (dD ta (dD tb eU))) σ H (.int (if j > i then j else i)):=
 bb (aD ha (aD hb aL)) fun Q q=>⟨i,j,rfl,q⟩
theorem zd(i j:Int):(if j > i then j else i)=max i j:=by
 by_cases h:j > i
 ·rw[if_pos h];omega
 ·rw[if_neg h];omega
theorem min_if(i j:Int):(if j < i then j else i)=min i j:=by
 by_cases h:j < i
 ·rw[if_pos h];omega
 ·rw[if_neg h];omega
theorem df{i:Nat}{a b:Int}{tl:TA}{σ:L2.St}{H:Hp}{D:lB}{tb:TS}(ha:EA tl σ H [.int a,.int b])(h1: -(2 ^ 62)≤a∧a < 2 ^ 62∧ -(2 ^ 62)≤b∧b < 2 ^ 62)(Pv:Nat→L2.St→Hp→Prop)(h0:Pv 0 σ H)
  (hs:∀(k:Nat) σ H,k < (b - a).toNat→Pv k σ H→tb { D with nx:=Pv (k+1),ct:=Pv (k+1),bk:=D.nx } (σ.set i (some (.int (a+(k:Nat))))) H) (hd:∀σ H,Pv (b - a).toNat σ H→D.nx σ H):tFor (iRng2 tl) (dB i) tb D σ H:=
 ha _ ⟨a,b,rfl,h1,U7 Pv h0 (fun k σ H hk p=>hs k σ H hk p) hd⟩
theorem aX.chg{H H1 H2:Hp}{A:List Addr}(s:aX H H1)(c:Chg A H1 H2)(n:∀a∈A,H a=none):aX H H2:=fun b o e=>c.keep b o (s b o e) (.inl fun q=>by rw[n b q] at e;cases e)
theorem UA(per n:Int):∀(j:Nat) (d:Int) (G:CS.Good),CS.lO per n (j+1) d G=CS.pK (CS.eat (CS.lO per n j d G) (per*n)) (d+(j:Nat)+1)
 |0,d,G=>by
  show CS.pK (CS.eat G (per*n)) (d+1)=CS.pK (CS.eat G (per*n)) (d+0+1);rw[Int.add_zero]
 |j+1,d,G=>by
  show CS.lO per n (j+1) (d+1) (CS.pK (CS.eat G (per*n)) (d+1))=_;rw[UA per n j];show CS.pK (CS.eat (CS.lO per n (j+1) d G) (per*n)) (d+1+(j:Nat)+1)=_;rw[show d+1+((j:Nat):Int)+1=d+((j+1:Nat):Int)+1 by push_cast;omega]
theorem FL(per n:Int):∀(j:Nat) (d:Int) (G:CS.Good),(CS.lO per n j d G).lots.length≤G.lots.length
 |0,_,_=>Nat.le_refl _
 |j+1,d,G=>by
  refine Nat.le_trans (FL per n j (d+1) (CS.pK (CS.eat G (per*n)) (d+1))) ?_;exact Nat.le_trans (List.length_filter_le _ _) (sY _ _)
theorem ak{l:List CS.Leg}{i:Nat}{y:CS.Leg}{b h:Int}(e:l[i]? =some y):CS.nS (l.drop i) b h=if y.miles=0∧b+y.hours > h then max b h else CS.nS (l.drop (i+1)) (b+y.hours) h:=by
 obtain⟨h1,e1⟩:=List.getElem?_eq_some_iff.mp e;rw[List.drop_eq_getElem_cons h1,e1];rfl
section
variable{P:Program}{w:World}{K:PySem.W.Frag}{mg:Str→Option Value}{aT:Heap}{n:bL}
def oj(n:bL):List V→Hp→V→Prop:=fun vs H v=>∃w l W t,vs=[.ref w,.int t]∧gQ n H w l W∧v=.int (CS.nS W.legs 0 t)
theorem ZV(T:Txt K mg n):bK P w K mg aT CX0 1 n.tQ n.uF ["way","hour"] (spP (oj n)):=by
 refine bK.pure (T.tX.ok lC (fun vs H Q E h=>?_) (fun cdv A bF s H vs Q E hr h=>?_))
 ·obtain⟨v,⟨a,b,c,d,rfl,_⟩,_⟩:=h;rfl
 ·obtain⟨v,⟨w,l,W,t,rfl,⟨⟨dw,hw⟩,as,hl,hall⟩,rfl⟩,k⟩:=h;refine⟨_,(aE (pst (i:=2) lC.nd aQ)
   (aE (sZ PassesOwn.never rfl (iI (aI (pv 0) rfl)) (pgn (i:=3) lC.nd) (aE (pst (i:=4) lC.nd (dG gJ (pv 2) (aI (pv 3) rfl)))
   (aE (bS (PW.pt (oQ (bE cY (aI (pv 3) rfl) aQ (bD _)) (oF (bE fW (pv 4) (pv 1) (bD _))))) (aK (aN (bW (V5 rfl) (by rfl) T.bc boot_max (aB (pv 2) (aB (pv 1) aG))))) bG)
   (aK (pst (i:=2) lC.nd (pv 4))))))
   (aK (aN (bW (V5 rfl) (by rfl) T.bc boot_max (aB (pv 2) (aB (pv 1) aG))))))),?_⟩
  refine cI aO ?_;dsimp only;refine BY (xs:=as.map V.ref) (aJ (aA rfl) hw T.dM T.fO rfl) (SqL.of hl) (fun i σ H'=>aX H H'∧∃b v3 v4,σ=[some (.ref w),some (.int t),some (.int b),v3,v4]∧CS.nS W.legs 0 t=CS.nS (W.legs.drop i) b t) ?_ ?_ ?_ ?_
  ·exact⟨aX.rfl',0,_,_,rfl,rfl⟩
  ·intro i σ H' _ ⟨sm,_⟩;exact SqL.of (sm _ _ hl)
  ·rintro i x σ H' hx ⟨sm,b,v3,v4,rfl,inv⟩;obtain⟨a,ha,rfl⟩:=jD hx;obtain⟨y,hy,dy,hy2⟩:=hall.at' ha;have h2:=sm _ _ hy2;rw[ak hy] at inv;dsimp only;refine cI (bU (aA rfl) (aJ (aA rfl) h2 T.qA T.lX rfl)) ?_;dsimp only;refine cD (oR (bB (cP (aJ (aA rfl) h2 T.qA T.oK rfl) aO)) fun _=>(bB (bU (aA rfl) (aA rfl)))) (fun e=>?_) (fun e=>?_)
   ·simp only[Bool.and_eq_true,decide_eq_true_eq] at e;rw[if_pos e] at inv;refine dO (dR (Dc (aA rfl) (aA rfl)) ?_) (k _ sm);rw[zd,inv]
   ·rw[if_neg (by
     intro z;rw[decide_eq_true z.1,decide_eq_true z.2] at e;cases e)] at inv
    dsimp only[bT];exact cI (aA rfl) ⟨sm,_,_,_,rfl,inv⟩
  ·rintro σ H' ⟨sm,b,v3,v4,rfl,inv⟩;dsimp only;rw[List.length_map,hall.1,List.drop_length] at inv;refine dO (dR (Dc (aA rfl) (aA rfl)) ?_) (k _ sm);rw[zd,inv];rfl
def ph(n:bL):List V→Hp→V→Prop:=fun vs H v=>∃w l W,vs=[.ref w]∧gQ n H w l W∧v=.int (CS.kZ W)
theorem FT(T:Txt K mg n):bK P w K mg aT CX0 2 n.vD n.vJ ["way"] (spP (ph n)):=by
 refine bK.pure (T.qY.ok DZ (fun vs H Q E h=>?_) (fun cdv A bF s H vs Q E hr h=>?_))
 ·obtain⟨v,⟨a,b,c,rfl,_⟩,_⟩:=h;rfl
 ·obtain⟨v,⟨w,l,W,rfl,hW,rfl⟩,k⟩:=h;obtain⟨dw,hw⟩:=hW.obj;refine⟨_,(aE (pst (i:=1) DZ.nd (dG oN (dG gJ (pcl (xL T) hr T.CJ T.vB (CN T) (aB (pv 0) aG)) aQ) (aV rfl T.kQ)))
   (aK (aN (bW (GR rfl) (by rfl) T.QC boot_min (aB (dG ZQ (pcl (ZV T) hr T.z7 T.tX (u4 T) (aB (pv 0) (aB (pv 1) aG))) (aV rfl T.kQ)) (aB (dG gJ (aI (pv 0) rfl) aQ) aG)))))),?_⟩
  refine cI (v:=.int ((CS.today W+1)*24)) (pC (bU (bI (aD (aA rfl) aL) ⟨w,l,W,rfl,hW,rfl⟩) aO) aO (.inr ⟨by decide,by decide⟩)) ?_;dsimp only;refine dO (dR (E9 (pC (bI (aD (aA rfl) (aD (aA rfl) aL)) ⟨w,l,W,_,rfl,hW,rfl⟩) aO ⟨by decide,by decide⟩) (bU (aJ (aA rfl) hw T.dM T.kI rfl) aO)) ?_) (k H aX.rfl');rw[min_if];rfl
def xh(n:bL):List V→Hp→V→Prop:=fun vs H v=>∃g l G a d e,vs=[.ref g,.int a,.int d,.int e]∧fL n H g l G∧G.lots.length≤1000∧(-(2 ^ 64) < a∧a < 2 ^ 64)∧(-(2 ^ 62)≤d∧d < 2 ^ 62∧ -(2 ^ 62)≤e∧e < 2 ^ 62)∧v=.int (CS.O8 G a d e)
theorem N5(T:Txt K mg n):bK P w K mg aT CX0 4 n.AU n.AG ["good","aboard","day","other_day"] (spP (xh n)):=by
 refine bK.pure (T.BO.ok xY (fun vs H Q E h=>?_) (fun cdv A bF s H vs Q E hr h=>?_))
 ·obtain⟨v,⟨_,_,_,_,_,_,rfl,_⟩,_⟩:=h;rfl
 ·obtain⟨v,⟨g,l,G,a,d,e,rfl,hG,hz,ha,hb,rfl⟩,k⟩:=h;obtain⟨dg,hg⟩:=hG.obj;refine⟨_,(aE (pst (i:=4) xY.nd (pM (pv 0) T.dE T.VL (XW T) (hr.cF (by decide)) (i0 T) .nil gK))
   (aE (sZ PassesOwn.never rfl (Cr rfl T.rV (aB (pv 2) (aB (pv 3) aG))) (pgn (i:=5) xY.nd) (aE (eQ (pcl (Ay T) hr T.m_eat T.ax (b_eat T) (aB (pv 4) (aB (dG oN (aI (pv 0) rfl) (pv 1)) aG))))
   (aK (eQ (pcl (ia T) hr T.qi T.YZ (rj T) (aB (pv 4) (aB (dG gJ (pv 5) aQ) aG)))))))
   (aK (aN (dG mX (aI (pv 4) rfl) (aI (pv 0) rfl)))))),?_⟩
  refine gR (uU (aA rfl) hg rfl ⟨g,l,G,rfl,hG,fun H1 g' l' ng nl hG1 s1=>?_⟩);dsimp only[dB];refine df (a:=d) (b:=e) (aD (aA rfl) (aD (aA rfl) aL)) hb (fun j σ H'=>∃v5 l2,σ=[some (.ref g),some (.int a),some (.int d),some (.int e),some (.ref g'),v5]∧fL n H' g' l2 (CS.lO G.per a j d G)∧aX H H') ?_ ?_ ?_
  ·exact⟨_,l',rfl,hG1,s1⟩
  ·rintro j σ H' hj ⟨v5,l2,rfl,hGj,sj⟩;have hgj:=sj _ _ hg;dsimp only;refine cG (vs:=[.ref g',.int (G.per*a)]) (aD (aA rfl) (aD (pC (aJ (aA rfl) hgj T.dE T.qK rfl) (aA rfl) (.inr ha)) aL)) ⟨g',l2,_,_,rfl,hGj,Nat.le_trans (FL _ _ _ _ _) hz,fun H2 l3 nl3 hG2 c2=>?_⟩;refine cG (vs:=[.ref g',.int (d+(j:Nat)+1)]) (aD (aA rfl) (aD (bU (aA rfl) aO) aL)) ⟨g',l3,_,_,rfl,hG2,Nat.le_trans (sY _ _) (Nat.le_trans (FL _ _ _ _ _) hz),fun H3 l4 nl4 hG3 c3=>?_⟩;refine⟨_,l4,rfl,?_,aX.chg sj (c2.trans c3) fun b hb=>by rw[List.mem_singleton.mp hb];exact ng⟩;rw[UA];exact hG3
  ·rintro σ H' ⟨v5,l2,rfl,hGj,sj⟩;obtain⟨dg2,hg2⟩:=hGj.obj;dsimp only;exact dO (bU (aJ (aA rfl) hg2 T.dE T.iA rfl) (aJ (aA rfl) (sj _ _ hg) T.dE T.iA rfl)) (k _ sj)
structure AhOk(Z:CS.aU):Prop where
 per:Z.aF.aM.length≤1000
 day: -(2 ^ 62)≤CS.today Z.way∧CS.today Z.way < 2 ^ 62
 port: -(2 ^ 62)≤CS.kZ Z.way∧CS.kZ Z.way < 2 ^ 62
 lots:∀G∈Z.stores.goods,G.lots.length≤900
 goods:Z.stores.goods.length≤1000
theorem AhOk.aboard{Z:CS.aU}(h:AhOk Z): -(2 ^ 64) < CS.cB Z.aF∧CS.cB Z.aF < 2 ^ 64:=by
 unfold CS.cB;have h1:=List.count_le_length (a:=(0:Int)) (l:=Z.aF.aM);have h2:=h.per;omega
def cc(n:bL):List V→Hp→V→Prop:=fun vs H v=>∃L Z g l G,vs=[.ref L.v,.ref g]∧bH n H L Z∧AhOk Z∧fL n H g l G∧G.lots.length≤1000∧v=.int (CS.mV Z G)
theorem wZ(T:Txt K mg n):bK P w K mg aT CX0 5 n.qL n.qO ["vessel","good"] (spP (cc n)):=by
 refine bK.pure (T.mF.ok vH (fun vs H Q E h=>?_) (fun cdv A bF s H vs Q E hr h=>?_))
 ·obtain⟨v,⟨_,_,_,_,_,rfl,_⟩,_⟩:=h;rfl
 ·obtain⟨v,⟨L,Z,g,l,G,rfl,hV,hok,hG,hz,rfl⟩,k⟩:=h;obtain⟨dv,hv⟩:=hV.obj;refine⟨_,(aE (pst (i:=2) vH.nd (pcl (mR T) hr T.oM T.jU (oH T) (aB (aI (pv 0) rfl) aG)))
   (aK (aN (pcl (N5 T) hr T.W9 T.BO (Y7 T) (aB (pv 1) (aB (pv 2) (aB (pcl (xL T) hr T.CJ T.vB (CN T) (aB (aI (pv 0) rfl) aG)) (aB (pcl (FT T) hr T.HF T.qY (GU T) (aB (aI (pv 0) rfl) aG)) aG)))))))),?_⟩
  refine cI (v:=.int (CS.cB Z.aF)) (bI (aD (aJ (aA rfl) hv T.bO T.cE rfl) aL) ⟨L.p,L.pl,Z.aF,rfl,hV.aF,rfl⟩) ?_;dsimp only;exact dO (bI (vs:=[.ref g,.int (CS.cB Z.aF),.int (CS.today Z.way),.int (CS.kZ Z.way)]) (aD (aA rfl) (aD (aA rfl) (aD (bI (aD (aJ (aA rfl) hv T.bO T.dF rfl) aL) ⟨L.w,L.wl,Z.way,rfl,hV.way,rfl⟩) (aD (bI (aD (aJ (aA rfl) hv T.bO T.dF rfl) aL) ⟨L.w,L.wl,Z.way,rfl,hV.way,rfl⟩) aL)))) ⟨g,l,G,_,_,_,rfl,hG,hz,hok.aboard,⟨hok.day.1,hok.day.2,hok.port.1,hok.port.2⟩,rfl⟩) (k H aX.rfl')
theorem ki(T:Txt K mg n):bK P w K mg aT CX0 6 n.MY n.OD ["vessel","g"] (fun vs H Q _=>∃L Z g,vs=[.ref L.v,.int g]∧0≤g∧bH n H L Z∧AhOk Z∧iM H (CS.xM Z g) Q):=by
 refine T.NA.ok yV (fun vs H Q E h=>?_) (fun cdv A bF s H vs Q E hr h=>?_)
 ·obtain⟨L,Z,g,rfl,_⟩:=h;rfl
 ·obtain⟨L,Z,a,rfl,h0,hV,hok,k⟩:=h;obtain⟨dv,hv⟩:=hV.obj;obtain⟨ds,hs⟩:=hV.stores.obj;have hl:=hV.stores.lst;have hall:=hV.stores.goods;unfold CS.xM at k;refine⟨_,(aE (bS (rR (dW (pcl (uP T) hr T.vK T.mW (wT T) (aB (aI (pv 0) rfl) (aB (pv 1) aG))))) (aK (aN (bJ (aB (aV rfl T.hC) aG)))) bG)
   (aE (pst (i:=2) yV.nd (cT bV (aI (aI (pv 0) rfl) rfl) (pv 1) (fun _ _=>rfl)))
   (aE (pst (i:=3) yV.nd (pcl (FT T) hr T.HF T.qY (GU T) (aB (aI (pv 0) rfl) aG)))
   (aE (pst (i:=4) yV.nd (pcl (wZ T) hr T.xG T.mF (xH T) (aB (pv 0) (aB (pv 2) aG))))
   (aE (bS (PW.pt (oQ (bE fW (pv 4) aQ (bD _)) (oF (bE tL (pcl (vC T) hr T.xD T.mH (xC T) (aB (pv 2) (aB (pcl (xL T) hr T.CJ T.vB (CN T) (aB (aI (pv 0) rfl) aG)) aG))) (dG mX (pv 3) aQ) (bD _))))) (aK (aN (bJ (aB (aV rfl T.pX) aG)))) bG)
   (aK (aN (bJ (aB (pv 4) (aB (pv 3) aG)))))))))),?_⟩
  refine cD (rU (dX (bI (aD (aJ (aA rfl) hv T.bO T.eB rfl) (aD (aA rfl) aL)) ⟨L.s,L.gl,L.gs,Z.stores,a,rfl,hV.stores,rfl⟩))) (fun e=>?_) (fun e=>?_)
  ·rw[Bool.not_eq_true'] at e;rw[if_pos (Int.not_lt.mp (of_decide_eq_false e))] at k;exact k.ret (aD aO aL) (by show 1≤1000;decide) rfl
  rw[Bool.not_eq_false'] at e;have hlt0:=of_decide_eq_true e;rw[if_neg (show ¬a≥((Z.stores.goods.length:Nat):Int) by omega)] at k;dsimp only[bT];have hi:a.toNat < Z.stores.goods.length:=by omega
  have hG0:Z.stores.goods[a.toNat]? =some (Z.stores.goods[a.toNat]):=List.getElem?_eq_getElem hi;obtain⟨p,hp,hG⟩:=hall.at hG0;have hgetD:Z.stores.goods.getD a.toNat ⟨0,0,[],0,0,0,0⟩=Z.stores.goods[a.toNat]:=by rw[List.getD_eq_getElem?_getD,hG0];rfl
  have hGm:Z.stores.goods[a.toNat]∈Z.stores.goods:=List.getElem_mem hi;rw[hgetD] at k;generalize Z.stores.goods[a.toNat]=G at*;have hGl:G.lots.length≤1000:=Nat.le_trans (hok.lots G hGm) (by decide);refine cI (cS (aJ (aJ (aA rfl) hv T.bO T.eB rfl) hs T.gF T.eA rfl) (aA rfl) (SqL.of hl) (A8 h0 hp)) ?_;dsimp only at k ⊢;refine cI (v:=.int (CS.kZ Z.way)) (bI (aD (aJ (aA rfl) hv T.bO T.dF rfl) aL) ⟨L.w,L.wl,Z.way,rfl,hV.way,rfl⟩) ?_;dsimp only;refine cI (v:=.int (CS.mV Z G)) (bI (aD (aA rfl) (aD (aA rfl) aL)) ⟨L,Z,p.1,p.2,G,rfl,hV,hok,hG,hGl,rfl⟩) ?_;dsimp only;refine cD (oR (bB (bU (aA rfl) aO)) fun _=>bB (bU (bI (v:=.int (CS.today Z.way+G.life)) (aD (aA rfl) (aD (bI (aD (aJ (aA rfl) hv T.bO T.dF rfl) aL) ⟨L.w,L.wl,Z.way,rfl,hV.way,rfl⟩) aL)) ⟨p.1,p.2,G,_,rfl,hG,rfl⟩) (bU (aA rfl) aO))) (fun e=>?_) (fun e=>?_)
  ·simp only[Bool.and_eq_true,decide_eq_true_eq] at e;rw[if_pos e] at k;exact k.ret (aD aO aL) (by show 1≤1000;decide) rfl
  rw[if_neg (by
   intro z;rw[decide_eq_true z.1,decide_eq_true z.2] at e;cases e)] at k
  dsimp only[bT];exact k.ret (aD (aA rfl) (aD (aA rfl) aL)) (by show 2≤1000;decide) rfl
theorem oh(T:Txt K mg n):bK P w K mg aT CX0 6 n.QK n.ON ["vessel"] (fun vs H Q _=>∃L Z,vs=[.ref L.v]∧bH n H L Z∧AhOk Z∧iM H (CS.CQ Z) Q):=by
 refine T.RG.ok sW (fun vs H Q E h=>?_) (fun cdv A bF s H vs Q E hr h=>?_)
 ·obtain⟨L,Z,rfl,_⟩:=h;rfl
 ·obtain⟨L,Z,rfl,hV,hok,k⟩:=h;obtain⟨dv,hv⟩:=hV.obj;obtain⟨ds,hs⟩:=hV.stores.obj;have hl:=hV.stores.lst;have hall:=hV.stores.goods;refine⟨_,(aE (pst (i:=1) sW.nd (aI (aI (pv 0) rfl) rfl))
   (aE (v7 (i:=2) (g:=z8 K 2 (sJ (dB 3) (sJ (dB 4) q5))) (tt:=(qW (tOp _ (jH _ _ _ (dD _ (dD _ eU))) _))) (te:=_) rfl sW.nd rfl rfl (L9 rfl rfl rfl rfl) (MD rfl T.nG (aB (pv 1) aG)) (gB (own:=[("number",3),("good",4)]) rfl) (fun _ _ _ _ _=>(UV rfl (nQ (pgn (i:=3) sW.nd) (nQ (pgn (i:=4) sW.nd) LR)))) (fun _ _ _ _ _=>(uR (bE fW (pcl (wZ T) hr T.xG T.mF (xH T) (aB (pv 0) (aB (pv 4) aG))) aQ (bD _)))) (fun _ _ _ _ _=>(pv 3)))
   (aK (aN (bJ (aB (bW cM (by rfl) T.eE PySem.boot_len (aB (pv 2) aG)) (aB (pcl (sG T) hr T.uT T.oW (uX T) (aB (pv 2) aG)) aG))))))),?_⟩
  refine cI (aJ (aJ (aA rfl) hv T.bO T.eB rfl) hs T.gF T.eA rfl) ?_;dsimp only;refine gR (ML (xs:=L.gs.map fun p=>V.ref p.1) (rs:=(List.range Z.stores.goods.length).map fun j=>(decide (CS.mV Z (Z.stores.goods.getD j ⟨0,0,[],0,0,0,0⟩) > 0),V.int (j:Nat))) (by decide) (aD (aA rfl) aL) (SqL.of hl) ?_ ?_ ?_ ?_)
  ·rw[List.length_map,hall.1];exact Nat.le_trans hok.goods (by decide)
  ·rw[List.length_map,List.length_map,List.length_range,hall.1]
  ·intro j x r hx hr H' sm;obtain⟨p,hp,rfl⟩:=LU hx;obtain⟨y,hy,hG⟩:=hall.at' hp;have hjl:j < Z.stores.goods.length:=(List.getElem?_eq_some_iff.mp hy).1;rw[List.getElem?_map,List.getElem?_range hjl] at hr;cases hr;have ey:Z.stores.goods.getD j ⟨0,0,[],0,0,0,0⟩=y:=by rw[List.getD_eq_getElem?_getD,hy];rfl
   have hym:=List.mem_of_getElem? hy;dsimp only;rw[ey];exact⟨bB (bU (bI (aD (aA rfl) (aD (aA rfl) aL)) ⟨L,Z,p.1,p.2,y,rfl,hV.same sm,hok,hG.same sm,Nat.le_trans (hok.lots y hym) (by decide),rfl⟩) aO),fun _=>aA rfl⟩
  ·intro D H' nD sm e;rw[oV (fun j:Nat=>decide (CS.mV Z (Z.stores.goods.getD j ⟨0,0,[],0,0,0,0⟩) > 0)) (fun j=>V.int (j:Nat)),←yA] at e;have e':H' D=some (.lst ((nV (CS.nB Z)).map V.int)):=e;have hlen:(CS.nB Z).length≤Z.stores.goods.length:=by
    unfold CS.nB;refine Nat.le_trans (List.length_filter_le _ _) ?_;rw[List.length_range];exact Nat.le_refl _
   have hj:∀j∈CS.nB Z,j≤1000:=fun j hj=>by
    have h1:=List.mem_range.mp (List.mem_filter.mp hj).1;have h2:=hok.goods;omega
   dsimp only[dB];exact(k.same sm).ret (aD (sI (aA rfl) e') (aD (bI (aD (aA rfl) aL) ⟨D,_,rfl,e',Nat.le_trans hlen hok.goods,hj,rfl⟩) aL)) (by show 2≤1000;decide) rfl
end
theorem xc{x:V}{xs:List V}:atI (x::xs) 0=some x:=oJ (j:=0) rfl
theorem atI_1{x y:V}{xs:List V}:atI (x::y::xs) 1=some y:=oJ (j:=1) rfl
theorem atI_2{x y z:V}{xs:List V}:atI (x::y::z::xs) 2=some z:=oJ (j:=2) rfl
theorem atI_3{x y z u:V}{xs:List V}:atI (x::y::z::u::xs) 3=some u:=oJ (j:=3) rfl
theorem Y9(Z:CS.aU)(i:Int):(∃c,c < 0∧(CS.kO Z i).2=[c])∨∃a b c d,(CS.kO Z i).2=[a,b,c,d]:=by
 unfold CS.kO
 split
 ·exact .inl ⟨-22,by decide,rfl⟩
 ·split
  ·exact .inl ⟨-75,by decide,rfl⟩
  ·exact .inr ⟨_,_,_,_,rfl⟩
section
variable{P:Program}{w:World}{K:PySem.W.Frag}{mg:Str→Option Value}{aT:Heap}{n:bL}
theorem mf(T:Txt K mg n):bK P w K mg aT CX0 7 n.RB n.QW ["vessel","n"] (fun vs H Q _=>∃L Z i,vs=[.ref L.v,.int i]∧bH n H L Z∧FF Z∧iM H (CS.xV Z i) Q):=by
 refine T.PR.ok KB (fun vs H Q E h=>?_) (fun cdv A bF s H vs Q E hr h=>?_)
 ·obtain⟨L,Z,i,rfl,_⟩:=h;rfl
 ·obtain⟨L,Z,i,rfl,hV,hok,k⟩:=h;obtain⟨dv,hv⟩:=hV.obj;unfold CS.xV at k;dsimp only at k;refine⟨_,(aE (pst (i:=2) KB.nd (pM (pv 0) T.bO T.LN (LK T) (hr.cF (by decide)) (UB T) .nil gK))
   (aE (pst (i:=3) KB.nd (pcl (g8 T) hr T.E1 T.BX (B5 T) (aB (pv 2) (aB (pv 1) aG))))
   (aE (bS (bE tL (cT bV (pv 3) aQ (fun _ _=>rfl)) aQ (bD _)) (aK (aN (bJ (aB (aV rfl T.eC) aG)))) bG)
   (aK (aN (bJ (aB (aI (aI (pv 2) rfl) rfl) (aB (cT bV (pv 3) aQ (fun _ _=>rfl)) (aB (cT bV (pv 3) aQ (fun _ _=>rfl)) (aB (cT bV (pv 3) aQ (fun _ _=>rfl)) aG)))))))))),?_⟩
  refine gR (uU (aA rfl) hv rfl ⟨L,Z,rfl,hV,hok.few.1,fun H1 L1 nL hV1 s1=>?_⟩);dsimp only[dB];refine gR (cG (vs:=[.ref L1.v,.int i]) (aD (aA rfl) (aD (aA rfl) aL)) ⟨L1,Z,i,rfl,hV1,hok,fun H2 L2 r hv2 hV2 hr2 c2 hn2 nr=>?_⟩);dsimp only[dB];have s2:aX H H2:=aX.chg s1 c2 nL;have nr':H r=none:=s1.free nr;obtain⟨dv2,hvv⟩:=hV2.obj;obtain⟨dt2,htt⟩:=hV2.tanks;rw[hv2] at hvv
  rcases Y9 Z i with⟨c,hc,e⟩ |⟨a,b,c,d,e⟩
  ·rw[e] at hr2 k;refine yi (qZ (bB (bU (cS (aA rfl) aO (SqL.of hr2) xc) aO)) (decide_eq_true hc)) ?_;rw[if_pos (show [c].getD 0 0 < 0 from hc)] at k;exact(k.same s2).ret (aD aO aL) (by show 1≤1000;decide) rfl
  ·rw[e] at hr2 k;refine cD (bB (bU (cS (aA rfl) aO (SqL.of hr2) xc) aO)) (fun q=>?_) (fun q=>?_)
   ·rw[if_pos (show [a,b,c,d].getD 0 0 < 0 from of_decide_eq_true q)] at k;exact(k.same s2).ret (aD aO aL) (by show 1≤1000;decide) rfl
   ·rw[if_neg (show ¬[a,b,c,d].getD 0 0 < 0 from of_decide_eq_false q)] at k;dsimp only[bT];exact(k.same s2).ret (aD (aJ (aJ (aA rfl) hvv T.bO T.eV rfl) htt T.bQ T.fI rfl) (aD (cS (aA rfl) aO (SqL.of hr2) atI_1) (aD (cS (aA rfl) aO (SqL.of hr2) atI_3) (aD (cS (aA rfl) aO (SqL.of hr2) atI_2) aL)))) (by show 4≤1000;decide) rfl
theorem fq(W:CS.Way)(m:Int)(f h:Nat)(T:CS.eP):CS.lastsGo W m (f+1) h T=if CS.mJ T (CS.eH W (W.hour+(h:Nat))) (CS.eR W (W.hour+(h:Nat))) m > 0 then h else CS.lastsGo W m f (h+1) (CS.iU T (CS.eH W (W.hour+(h:Nat))) (CS.eR W (W.hour+(h:Nat))) m):=rfl
theorem ke(T:Txt K mg n):bK P w K mg aT CX0 4 n.NF n.RX ["vessel"] (fun vs H Q _=>∃L Z,vs=[.ref L.v]∧bH n H L Z∧FF Z∧iM H (CS.xO Z) Q):=by
 refine T.MZ.ok qD (fun vs H Q E h=>?_) (fun cdv A bF s H vs Q E hr h=>?_)
 ·obtain⟨L,Z,rfl,_⟩:=h;rfl
 ·obtain⟨L,Z,rfl,hV,hok,k⟩:=h;obtain⟨dv,hv⟩:=hV.obj;obtain⟨dw,hw⟩:=hV.way.obj;obtain⟨dt,ht⟩:=hV.tanks;unfold CS.xO at k;generalize hX:CS.lastsGo Z.way (CS.cB Z.aF) 500 0 Z.tanks=X at k;refine⟨_,(aE (pst (i:=1) qD.nd (aI (pv 0) rfl))
   (aE (pst (i:=2) qD.nd (pM (aI (pv 0) rfl) T.bQ T.TX (TB T) (hr.cF (by decide)) (WS T) .nil gK))
   (aE (pst (i:=3) qD.nd (pcl (mR T) hr T.oM T.jU (oH T) (aB (aI (pv 0) rfl) aG)))
   (aE (sZ PassesOwn.never rfl (zI rfl T.rV (aB (aV rfl T.mZ) aG)) (pgn (i:=4) qD.nd) (aE (pst (i:=5) qD.nd (dG gJ (aI (pv 1) rfl) (pv 4)))
   (aK (bS (bE fW (pcl (SO T) hr T.YJ T.wC (YX T) (aB (pv 2) (aB (pcl (sV T) hr T.vW T.pI (wB T) (aB (pv 1) (aB (pv 5) aG))) (aB (pcl (JK T) hr T.MH T.vR (NS T) (aB (pv 1) (aB (pv 5) aG))) (aB (pv 3) aG))))) aQ (bD _)) (aK (aN (bJ (aB (pv 4) aG)))) bG))))
   (aK (aN (bJ (aB (aV rfl T.mZ) aG)))))))),?_⟩
  refine cI (aJ (aA rfl) hv T.bO T.dF rfl) ?_;dsimp only;refine gR (uU (aJ (aA rfl) hv T.bO T.eV rfl) ht rfl ⟨L.t,dt,Z.tanks,rfl,ht,fun H1 t1 nt hT1 s1=>?_⟩);dsimp only[dB];refine cI (v:=.int (CS.cB Z.aF)) (bI (aD (aJ (aA rfl) (s1 _ _ hv) T.bO T.cE rfl) aL) ⟨L.p,L.pl,Z.aF,rfl,hV.aF.same s1,rfl⟩) ?_;dsimp only;refine JD (n:=500) (aD aO aL) (by decide) (by decide) (fun j σ H'=>j≤500∧aX H H'∧∃v4 v5 T,σ=[some (.ref L.v),some (.ref L.w),some (.ref t1),some (.int (CS.cB Z.aF)),v4,v5]∧gH H' n.dI t1 (lH T)∧X=CS.lastsGo Z.way (CS.cB Z.aF) (500 - j) j T) ?_ ?_ ?_
  ·exact⟨by decide,s1,_,_,Z.tanks,rfl,hT1,hX.symm⟩
  ·rintro j σ H' hj ⟨_,sj,v4,v5,TT,rfl,⟨dj,htj⟩,inv⟩;have hj':j < 500:=hj;have hwj:=sj _ _ hw;have hWj:=hV.way.same sj;dsimp only;refine cI (v:=.int (Z.way.hour+(j:Nat))) (bU (aJ (aA rfl) hwj T.dM T.dS rfl) (aA rfl)) ?_;dsimp only;rw[show 500 - j=(500 - (j+1))+1 by omega,fq] at inv;refine cG (vs:=[.ref t1,.int (CS.eH Z.way (Z.way.hour+(j:Nat))),.int (CS.eR Z.way (Z.way.hour+(j:Nat))),.int (CS.cB Z.aF)]) (aD (aA rfl) (aD (bI (aD (aA rfl) (aD (aA rfl) aL)) ⟨L.w,L.wl,Z.way,_,rfl,hWj,rfl⟩) (aD (bI (aD (aA rfl) (aD (aA rfl) aL)) ⟨L.w,L.wl,Z.way,_,rfl,hWj,rfl⟩) (aD (aA rfl) aL)))) ⟨_,_,_,hok.aboard,t1,dj,TT,rfl,trivial,htj,?_⟩;have s2:aX H (upd H' t1 (.ins n.dI dj (lH (CS.iU TT (CS.eH Z.way (Z.way.hour+(j:Nat))) (CS.eR Z.way (Z.way.hour+(j:Nat))) (CS.cB Z.aF))))):=fun b o e=>aZ (bN e nt) (sj b o e);refine⟨_,_,rfl,rfl,_,rfl,?_⟩;dsimp only
   by_cases q:0 < CS.mJ TT (CS.eH Z.way (Z.way.hour+(j:Nat))) (CS.eR Z.way (Z.way.hour+(j:Nat))) (CS.cB Z.aF)
   ·rw[if_pos (decide_eq_true q)];rw[if_pos (show CS.mJ TT (CS.eH Z.way (Z.way.hour+(j:Nat))) (CS.eR Z.way (Z.way.hour+(j:Nat))) (CS.cB Z.aF) > 0 from q)] at inv;rw[inv] at k;exact(k.same s2).ret (aD (aA rfl) aL) (by show 1≤1000;decide) rfl
   ·rw[if_neg (by rw[decide_eq_false q];decide)];rw[if_neg (show ¬CS.mJ TT (CS.eH Z.way (Z.way.hour+(j:Nat))) (CS.eR Z.way (Z.way.hour+(j:Nat))) (CS.cB Z.aF) > 0 from q)] at inv;exact⟨hj',s2,_,_,_,rfl,⟨dj,aH⟩,inv⟩
  ·rintro σ H' ⟨_,sj,v4,v5,TT,rfl,_,inv⟩;have inv':X=500:=inv;rw[inv'] at k;dsimp only;exact(k.same sj).ret (aD aO aL) (by show 1≤1000;decide) rfl
end
structure VOk(Z:CS.aU):Prop where
 legs:Z.way.legs.length≤100
 pok:POk Z.aF
 span:∀p∈Z.aF.parties,0≤p.many∧p.first+p.many≤(Z.aF.persons.length:Int)
 goods:Z.stores.goods.length≤1000
 lots:∀G∈Z.stores.goods,G.lots.length≤900
 day: -(2 ^ 62)≤CS.today Z.way∧CS.today Z.way < 2 ^ 62
 port: -(2 ^ 62)≤CS.kZ Z.way∧CS.kZ Z.way < 2 ^ 62
theorem VOk.st{Z:CS.aU}(h:VOk Z):Z.aF.aM.length≤1000:=by rw[h.pok.sl];exact h.pok.few.1
theorem VOk.few{Z:CS.aU}(h:VOk Z):sD Z.stores:=⟨h.goods,fun G hG=>Nat.le_trans (h.lots G hG) (by decide)⟩
theorem VOk.hr{Z:CS.aU}(h:VOk Z):FF Z:=⟨h.few,h.st⟩
theorem VOk.ah{Z:CS.aU}(h:VOk Z):AhOk Z:=⟨h.st,h.day,h.port,h.lots,h.goods⟩
theorem atN{ns:List Int}(i:Nat)(h:i < ns.length):atI (ns.map V.int) ((i:Nat):Int)=some (.int (ns.getD i 0)):=by
 have:=qC (xs:=ns) (x:=((i:Nat):Int)) (by omega) (by omega);rw[Int.toNat_natCast] at this;exact this
theorem P8{ns:List Int}(h:∀x∈ns,0≤x)(i:Nat):0≤ns.getD i 0:=by
 rw[List.getD_eq_getElem?_getD]
 cases e:ns[i]? with
 |none=>exact Int.le_refl 0
 |some x=>exact h x (List.mem_of_getElem? e)
section
variable{P:Program}{w:World}{K:PySem.W.Frag}{mg:Str→Option Value}{aT:Heap}{n:bL}
def mz:List V→Hp→V→Prop:=fun vs _ v=>∃c,vs=[.int c]∧v=.bl (!CS.cJ c 1 14)
theorem jb(T:Txt K mg n):bK P w K mg aT CX0 2 n.JW n.KO ["call"] (spP mz):=by
 refine bK.pure (T.IQ.ok im (fun vs H Q E h=>?_) (fun cdv A bF s H vs Q E hr h=>?_))
 ·obtain⟨v,⟨c,rfl,_⟩,_⟩:=h;rfl
 ·obtain⟨v,⟨c,rfl,rfl⟩,k⟩:=h;refine⟨_,(aK (aN (er (pcl (iY T) hr T.kE T.iS (kF T) (aB (pv 0) (aB (aV rfl T.OU) (aB (aV rfl T.OK) aG))))))),?_⟩;exact dO (ic (bI (aD (aA rfl) (aD aO (aD aO aL))) ⟨_,_,_,rfl,rfl⟩)) (k H aX.rfl')
def zh(n:bL):Sp:=fun vs H Q _=>∃L Z c l ns,vs=[.ref L.v,.int c,.ref l]∧bH n H L Z∧VOk Z∧H l=some (.lst (ns.map V.int))∧ns.length=CS.cQ c∧(∀x∈ns,0≤x)∧1≤c∧c≤14∧oS n H L (CS.nR Z c ns) Q
theorem yy(T:Txt K mg n):bK P w K mg aT CX0 7 n.z6 n.u9 ["vessel","call","numbers"] (zh n):=by
 refine T.p9.ok Ae (fun vs H Q E h=>?_) (fun cdv A bF s H vs Q E hr h=>?_)
 ·obtain⟨L,Z,c,l,ns,rfl,_⟩:=h;rfl
 ·obtain⟨L,Z,c,l,ns,rfl,hV,hok,hl,har,hnn,hc1,hc2,k⟩:=h;refine⟨_,(aE (bS (bE cY (pv 1) (aV rfl T.OU) (bD _)) (aK (aN (pcl (zm T) hr T.Dl T.t0 (Fx T) (aB (pv 0) (aB (cT bV (pv 2) aQ (fun _ _=>rfl)) (aB (cT bV (pv 2) aQ (fun _ _=>rfl)) (aB (cT bV (pv 2) aQ (fun _ _=>rfl)) aG))))))) bG)
   (aE (bS (bE cY (pv 1) (aV rfl T.XC) (bD _)) (aK (aN (pcl (yt T) hr T.Au T.YW (Ao T) (aB (pv 0) (aB (cT bV (pv 2) aQ (fun _ _=>rfl)) (aB (cT bV (pv 2) aQ (fun _ _=>rfl)) aG)))))) bG)
   (aE (bS (bE cY (pv 1) (aV rfl T.SJ) (bD _)) (aK (aN (pcl (om T) hr T.tq T.NM (vi T) (aB (pv 0) (aB (cT bV (pv 2) aQ (fun _ _=>rfl)) (aB (cT bV (pv 2) aQ (fun _ _=>rfl)) (aB (cT bV (pv 2) aQ (fun _ _=>rfl)) (aB (cT bV (pv 2) aQ (fun _ _=>rfl)) (aB (cT bV (pv 2) aQ (fun _ _=>rfl)) aG))))))))) bG)
   (aE (bS (bE cY (pv 1) (aV rfl T.NL) (bD _)) (aK (aN (pcl (ox T) hr T.sn T.MV (ut T) (aB (pv 0) (aB (cT bV (pv 2) aQ (fun _ _=>rfl)) (aB (cT bV (pv 2) aQ (fun _ _=>rfl)) (aB (cT bV (pv 2) aQ (fun _ _=>rfl)) (aB (cT bV (pv 2) aQ (fun _ _=>rfl)) aG)))))))) bG)
   (aE (bS (bE cY (pv 1) (aV rfl T.PV) (bD _)) (aK (aN (pcl (mw T) hr T.ub T.MP (uc T) (aB (pv 0) (aB (cT bV (pv 2) aQ (fun _ _=>rfl)) aG))))) bG)
   (aE (bS (bE cY (pv 1) (aV rfl T.VR) (bD _)) (aK (aN (pcl (yn T) hr T.Ce T.WK (Be T) (aB (pv 0) (aB (cT bV (pv 2) aQ (fun _ _=>rfl)) aG))))) bG)
   (aE (bS (bE cY (pv 1) (aV rfl T.YA) (bD _)) (aK (aN (pcl (sx T) hr T.Bd T.YB (By T) (aB (pv 0) (aB (cT bV (pv 2) aQ (fun _ _=>rfl)) aG))))) bG)
   (aE (bS (bE cY (pv 1) (aV rfl T.UZ) (bD _)) (aK (aN (pcl (sy T) hr T.Ap T.WM (Bs T) (aB (pv 0) (aB (cT bV (pv 2) aQ (fun _ _=>rfl)) (aB (cT bV (pv 2) aQ (fun _ _=>rfl)) aG)))))) bG)
   (aE (bS (bE cY (pv 1) (aV rfl T.JS) (bD _)) (aK (aN (pcl (gh T) hr T.pz T.KR (kj T) (aB (pv 0) (aB (cT bV (pv 2) aQ (fun _ _=>rfl)) aG))))) bG)
   (aE (bS (bE cY (pv 1) (aV rfl T.JA) (bD _)) (aK (aN (pcl (jv T) hr T.ly T.IC (na T) (aB (pv 0) (aB (cT bV (pv 2) aQ (fun _ _=>rfl)) (aB (cT bV (pv 2) aQ (fun _ _=>rfl)) aG)))))) bG)
   (aE (bS (bE cY (pv 1) (aV rfl T.w8) (bD _)) (aK (aN (pcl (Cw T) hr T.Ec T.v9 (Gd T) (aB (pv 0) (aB (cT bV (pv 2) aQ (fun _ _=>rfl)) (aB (cT bV (pv 2) aQ (fun _ _=>rfl)) (aB (cT bV (pv 2) aQ (fun _ _=>rfl)) aG))))))) bG)
   (aE (bS (bE cY (pv 1) (aV rfl T.QP) (bD _)) (aK (aN (pcl (kz T) hr T.si T.NR (wt T) (aB (pv 0) aG)))) bG)
   (aE (bS (bE cY (pv 1) (aV rfl T.O0) (bD _)) (aK (aN (pcl (Em T) hr T.Gq T.N3 (Gs T) (aB (pv 0) (aB (cT bV (pv 2) aQ (fun _ _=>rfl)) aG))))) bG)
   (aK (aN (pcl (g8 T) hr T.E1 T.BX (B5 T) (aB (pv 0) (aB (cT bV (pv 2) aQ (fun _ _=>rfl)) aG)))))))))))))))))),?_⟩
  unfold CS.nR at k;have at_:∀i:Nat,i < ns.length→atI (ns.map V.int) ((i:Nat):Int)=some (.int (ns.getD i 0)):=fun i h=>atN i h;have nn:=P8 hnn;refine cD (bB (cP (aA rfl) aO)) (fun e=>?_) (fun e=>?_)
  ·have ec:c=1:=of_decide_eq_true e;rw[if_pos ec] at k;have hn:ns.length=3:=by rw[har,ec];rfl
   exact cG (vs:=[.ref L.v,.int (ns.getD 0 0),.int (ns.getD 1 0),.int (ns.getD 2 0)]) (aD (aA rfl) (aD (cS (aA rfl) aO (SqL.of hl) (at_ 0 (by omega))) (aD (cS (aA rfl) aO (SqL.of hl) (at_ 1 (by omega))) (aD (cS (aA rfl) aO (SqL.of hl) (at_ 2 (by omega))) aL)))) ⟨L,Z,_,_,_,rfl,hV,hok.legs,k⟩
  have nc1:¬c=1:=of_decide_eq_false e;rw[if_neg nc1] at k;dsimp only[bT];refine cD (bB (cP (aA rfl) aO)) (fun e=>?_) (fun e=>?_)
  ·have ec:c=2:=of_decide_eq_true e;rw[if_pos ec] at k;have hn:ns.length=2:=by rw[har,ec];rfl
   exact cG (vs:=[.ref L.v,.int (ns.getD 0 0),.int (ns.getD 1 0)]) (aD (aA rfl) (aD (cS (aA rfl) aO (SqL.of hl) (at_ 0 (by omega))) (aD (cS (aA rfl) aO (SqL.of hl) (at_ 1 (by omega))) aL))) ⟨L,Z,_,_,rfl,hV,hok.goods,k⟩
  have nc2:¬c=2:=of_decide_eq_false e;rw[if_neg nc2] at k;dsimp only[bT];refine cD (bB (cP (aA rfl) aO)) (fun e=>?_) (fun e=>?_)
  ·have ec:c=3:=of_decide_eq_true e;rw[if_pos ec] at k;have hn:ns.length=5:=by rw[har,ec];rfl
   exact cG (vs:=[.ref L.v,.int (ns.getD 0 0),.int (ns.getD 1 0),.int (ns.getD 2 0),.int (ns.getD 3 0),.int (ns.getD 4 0)]) (aD (aA rfl) (aD (cS (aA rfl) aO (SqL.of hl) (at_ 0 (by omega))) (aD (cS (aA rfl) aO (SqL.of hl) (at_ 1 (by omega))) (aD (cS (aA rfl) aO (SqL.of hl) (at_ 2 (by omega))) (aD (cS (aA rfl) aO (SqL.of hl) (at_ 3 (by omega))) (aD (cS (aA rfl) aO (SqL.of hl) (at_ 4 (by omega))) aL)))))) ⟨L,Z,_,_,_,_,_,rfl,hV,hok.pok.few.2.2,k⟩
  have nc3:¬c=3:=of_decide_eq_false e;rw[if_neg nc3] at k;dsimp only[bT];refine cD (bB (cP (aA rfl) aO)) (fun e=>?_) (fun e=>?_)
  ·have ec:c=4:=of_decide_eq_true e;rw[if_pos ec] at k;have hn:ns.length=4:=by rw[har,ec];rfl
   exact cG (vs:=[.ref L.v,.int (ns.getD 0 0),.int (ns.getD 1 0),.int (ns.getD 2 0),.int (ns.getD 3 0)]) (aD (aA rfl) (aD (cS (aA rfl) aO (SqL.of hl) (at_ 0 (by omega))) (aD (cS (aA rfl) aO (SqL.of hl) (at_ 1 (by omega))) (aD (cS (aA rfl) aO (SqL.of hl) (at_ 2 (by omega))) (aD (cS (aA rfl) aO (SqL.of hl) (at_ 3 (by omega))) aL))))) ⟨L,Z,_,_,_,_,rfl,hV,hok.pok,k⟩
  have nc4:¬c=4:=of_decide_eq_false e;rw[if_neg nc4] at k;dsimp only[bT];refine cD (bB (cP (aA rfl) aO)) (fun e=>?_) (fun e=>?_)
  ·have ec:c=5:=of_decide_eq_true e;rw[if_pos ec] at k;have hn:ns.length=1:=by rw[har,ec];rfl
   exact cG (vs:=[.ref L.v,.int (ns.getD 0 0)]) (aD (aA rfl) (aD (cS (aA rfl) aO (SqL.of hl) (at_ 0 (by omega))) aL)) ⟨L,Z,_,rfl,nn 0,hV,hok.pok,hok.span,k⟩
  have nc5:¬c=5:=of_decide_eq_false e;rw[if_neg nc5] at k;dsimp only[bT];refine cD (bB (cP (aA rfl) aO)) (fun e=>?_) (fun e=>?_)
  ·have ec:c=6:=of_decide_eq_true e;rw[if_pos ec] at k;have hn:ns.length=1:=by rw[har,ec];rfl
   exact cG (vs:=[.ref L.v,.int (ns.getD 0 0)]) (aD (aA rfl) (aD (cS (aA rfl) aO (SqL.of hl) (at_ 0 (by omega))) aL)) ⟨L,Z,_,rfl,hV,k⟩
  have nc6:¬c=6:=of_decide_eq_false e;rw[if_neg nc6] at k;dsimp only[bT];refine cD (bB (cP (aA rfl) aO)) (fun e=>?_) (fun e=>?_)
  ·have ec:c=7:=of_decide_eq_true e;rw[if_pos ec] at k;have hn:ns.length=1:=by rw[har,ec];rfl
   exact cG (vs:=[.ref L.v,.int (ns.getD 0 0)]) (aD (aA rfl) (aD (cS (aA rfl) aO (SqL.of hl) (at_ 0 (by omega))) aL)) ⟨L,Z,_,rfl,hV,hok.pok,nn 0,k⟩
  have nc7:¬c=7:=of_decide_eq_false e;rw[if_neg nc7] at k;dsimp only[bT];refine cD (bB (cP (aA rfl) aO)) (fun e=>?_) (fun e=>?_)
  ·have ec:c=8:=of_decide_eq_true e;rw[if_pos ec] at k;have hn:ns.length=2:=by rw[har,ec];rfl
   exact cG (vs:=[.ref L.v,.int (ns.getD 0 0),.int (ns.getD 1 0)]) (aD (aA rfl) (aD (cS (aA rfl) aO (SqL.of hl) (at_ 0 (by omega))) (aD (cS (aA rfl) aO (SqL.of hl) (at_ 1 (by omega))) aL))) ⟨L,Z,_,_,rfl,nn 0,hV,hok.goods,hok.lots,k⟩
  have nc8:¬c=8:=of_decide_eq_false e;rw[if_neg nc8] at k;dsimp only[bT];refine cD (bB (cP (aA rfl) aO)) (fun e=>?_) (fun e=>?_)
  ·have ec:c=9:=of_decide_eq_true e;rw[if_pos ec] at k;have hn:ns.length=1:=by rw[har,ec];rfl
   exact cG (vs:=[.ref L.v,.int (ns.getD 0 0)]) (aD (aA rfl) (aD (cS (aA rfl) aO (SqL.of hl) (at_ 0 (by omega))) aL)) ⟨L,Z,_,rfl,hV,k⟩
  have nc9:¬c=9:=of_decide_eq_false e;rw[if_neg nc9] at k;dsimp only[bT];refine cD (bB (cP (aA rfl) aO)) (fun e=>?_) (fun e=>?_)
  ·have ec:c=10:=of_decide_eq_true e;rw[if_pos ec] at k;have hn:ns.length=2:=by rw[har,ec];rfl
   exact cG (vs:=[.ref L.v,.int (ns.getD 0 0),.int (ns.getD 1 0)]) (aD (aA rfl) (aD (cS (aA rfl) aO (SqL.of hl) (at_ 0 (by omega))) (aD (cS (aA rfl) aO (SqL.of hl) (at_ 1 (by omega))) aL))) ⟨L,Z,_,_,rfl,hV,k⟩
  have nc10:¬c=10:=of_decide_eq_false e;rw[if_neg nc10] at k;dsimp only[bT];refine cD (bB (cP (aA rfl) aO)) (fun e=>?_) (fun e=>?_)
  ·have ec:c=11:=of_decide_eq_true e;rw[if_pos ec] at k;have hn:ns.length=3:=by rw[har,ec];rfl
   exact cG (vs:=[.ref L.v,.int (ns.getD 0 0),.int (ns.getD 1 0),.int (ns.getD 2 0)]) (aD (aA rfl) (aD (cS (aA rfl) aO (SqL.of hl) (at_ 0 (by omega))) (aD (cS (aA rfl) aO (SqL.of hl) (at_ 1 (by omega))) (aD (cS (aA rfl) aO (SqL.of hl) (at_ 2 (by omega))) aL)))) ⟨L,Z,_,_,_,rfl,hV,k⟩
  have nc11:¬c=11:=of_decide_eq_false e;rw[if_neg nc11] at k;dsimp only[bT];refine cD (bB (cP (aA rfl) aO)) (fun e=>?_) (fun e=>?_)
  ·have ec:c=12:=of_decide_eq_true e;rw[if_pos ec] at k;have hn:ns.length=0:=by rw[har,ec];rfl
   exact cG (vs:=[.ref L.v]) (aD (aA rfl) aL) ⟨L,Z,rfl,hV,hok.pok.few.1,k⟩
  have nc12:¬c=12:=of_decide_eq_false e;rw[if_neg nc12] at k;dsimp only[bT];refine cD (bB (cP (aA rfl) aO)) (fun e=>?_) (fun e=>?_)
  ·have ec:c=13:=of_decide_eq_true e;rw[if_pos ec] at k;have hn:ns.length=1:=by rw[har,ec];rfl
   exact cG (vs:=[.ref L.v,.int (ns.getD 0 0)]) (aD (aA rfl) (aD (cS (aA rfl) aO (SqL.of hl) (at_ 0 (by omega))) aL)) ⟨L,Z,_,rfl,nn 0,hV,hok.pok,k⟩
  have nc13:¬c=13:=of_decide_eq_false e;rw[if_neg nc13] at k;dsimp only[bT];have hn:ns.length=1:=by rw[har,show c=14 by omega];rfl
  exact cG (vs:=[.ref L.v,.int (ns.getD 0 0)]) (aD (aA rfl) (aD (cS (aA rfl) aO (SqL.of hl) (at_ 0 (by omega))) aL)) ⟨L,Z,_,rfl,hV,hok.hr,k⟩
def Ht(n:bL):Sp:=fun vs H Q _=>∃L Z c l ns,vs=[.ref L.v,.int c,.ref l]∧bH n H L Z∧VOk Z∧H l=some (.lst (ns.map V.int))∧ns.length=CS.cQ c∧(∀x∈ns,0≤x)∧15≤c∧c≤29∧iM H (CS.FA Z c ns) Q
theorem Gx(T:Txt K mg n):bK P w K mg aT CX0 8 n.gx n.je ["vessel","call","numbers"] (Ht n):=by
 refine T.fu.ok Gw (fun vs H Q E h=>?_) (fun cdv A bF s H vs Q E hr h=>?_)
 ·obtain⟨L,Z,c,l,ns,rfl,_⟩:=h;rfl
 ·obtain⟨L,Z,c,l,ns,rfl,hV,hok,hl,har,hnn,hc1,hc2,k⟩:=h;refine⟨_,(aE (bS (bE cY (pv 1) (aV rfl T.QN) (bD _)) (aK (aN (pcl (ko T) hr T.wv T.NZ (vo T) (aB (pv 0) aG)))) bG)
   (aE (bS (bE cY (pv 1) (aV rfl T.NN) (bD _)) (aK (aN (pcl (mj T) hr T.yc T.ND (ww T) (aB (pv 0) aG)))) bG)
   (aE (bS (bE cY (pv 1) (aV rfl T.HR) (bD _)) (aK (aN (pcl (cn T) hr T.ku T.IO (kr T) (aB (pv 0) aG)))) bG)
   (aE (bS (bE cY (pv 1) (aV rfl T.DN) (bD _)) (aK (aN (pcl (Y1 T) hr T.cu T.EL (jn T) (aB (pv 0) aG)))) bG)
   (aE (bS (bE cY (pv 1) (aV rfl T.IV) (bD _)) (aK (aN (pcl (ii T) hr T.kv T.JP (jz T) (aB (pv 0) aG)))) bG)
   (aE (bS (bE cY (pv 1) (aV rfl T.n6) (bD _)) (aK (aN (pcl (Bc T) hr T.Ek T.A7 (Er T) (aB (pv 0) (aB (cT bV (pv 2) aQ (fun _ _=>rfl)) aG))))) bG)
   (aE (bS (bE cY (pv 1) (aV rfl T.RR) (bD _)) (aK (aN (pcl (pf T) hr T.xq T.PX (vx T) (aB (pv 0) (aB (cT bV (pv 2) aQ (fun _ _=>rfl)) aG))))) bG)
   (aE (bS (bE cY (pv 1) (aV rfl T.HV) (bD _)) (aK (aN (pcl (ja T) hr T.ma T.IX (nu T) (aB (pv 0) aG)))) bG)
   (aE (bS (bE cY (pv 1) (aV rfl T.MF) (bD _)) (aK (aN (pcl (ki T) hr T.yu T.NA (uv T) (aB (pv 0) (aB (cT bV (pv 2) aQ (fun _ _=>rfl)) aG))))) bG)
   (aE (bS (bE cY (pv 1) (aV rfl T.MK) (bD _)) (aK (aN (pcl (oh T) hr T.xo T.RG (vp T) (aB (pv 0) aG)))) bG)
   (aE (bS (bE cY (pv 1) (aV rfl T.QQ) (bD _)) (aK (aN (pcl (pd T) hr T.uw T.SI (vq T) (aB (pv 0) (aB (cT bV (pv 2) aQ (fun _ _=>rfl)) aG))))) bG)
   (aE (bS (bE cY (pv 1) (aV rfl T.RH) (bD _)) (aK (aN (pcl (lf T) hr T.wu T.PL (vw T) (aB (pv 0) aG)))) bG)
   (aE (bS (bE cY (pv 1) (aV rfl T.OE) (bD _)) (aK (aN (pcl (ke T) hr T.yg T.MZ (xl T) (aB (pv 0) aG)))) bG)
   (aE (bS (bE cY (pv 1) (aV rfl T.QH) (bD _)) (aK (aN (pcl (mf T) hr T.uh T.PR (wa T) (aB (pv 0) (aB (cT bV (pv 2) aQ (fun _ _=>rfl)) aG))))) bG)
   (aK (aN (pcl (ve T) hr T.Dj T.WW (Cm T) (aB (pv 0) aG)))))))))))))))))),?_⟩
  unfold CS.FA at k;have at_:∀i:Nat,i < ns.length→atI (ns.map V.int) ((i:Nat):Int)=some (.int (ns.getD i 0)):=fun i h=>atN i h;have nn:=P8 hnn;refine cD (bB (cP (aA rfl) aO)) (fun e=>?_) (fun e=>?_)
  ·have ec:c=15:=of_decide_eq_true e;rw[if_pos ec] at k;have hn:ns.length=0:=by rw[har,ec];rfl
   exact cG (vs:=[.ref L.v]) (aD (aA rfl) aL) ⟨L,Z,rfl,hV,Nat.le_trans hok.legs (by decide),k⟩
  have nc15:¬c=15:=of_decide_eq_false e;rw[if_neg nc15] at k;dsimp only[bT];refine cD (bB (cP (aA rfl) aO)) (fun e=>?_) (fun e=>?_)
  ·have ec:c=16:=of_decide_eq_true e;rw[if_pos ec] at k;have hn:ns.length=0:=by rw[har,ec];rfl
   exact cG (vs:=[.ref L.v]) (aD (aA rfl) aL) ⟨L,Z,rfl,hV,hok.st,k⟩
  have nc16:¬c=16:=of_decide_eq_false e;rw[if_neg nc16] at k;dsimp only[bT];refine cD (bB (cP (aA rfl) aO)) (fun e=>?_) (fun e=>?_)
  ·have ec:c=17:=of_decide_eq_true e;rw[if_pos ec] at k;have hn:ns.length=0:=by rw[har,ec];rfl
   exact cG (vs:=[.ref L.v]) (aD (aA rfl) aL) ⟨L,Z,rfl,hV,hok.st,k⟩
  have nc17:¬c=17:=of_decide_eq_false e;rw[if_neg nc17] at k;dsimp only[bT];refine cD (bB (cP (aA rfl) aO)) (fun e=>?_) (fun e=>?_)
  ·have ec:c=18:=of_decide_eq_true e;rw[if_pos ec] at k;have hn:ns.length=0:=by rw[har,ec];rfl
   exact cG (vs:=[.ref L.v]) (aD (aA rfl) aL) ⟨L,Z,rfl,hV,hok.st,k⟩
  have nc18:¬c=18:=of_decide_eq_false e;rw[if_neg nc18] at k;dsimp only[bT];refine cD (bB (cP (aA rfl) aO)) (fun e=>?_) (fun e=>?_)
  ·have ec:c=19:=of_decide_eq_true e;rw[if_pos ec] at k;have hn:ns.length=0:=by rw[har,ec];rfl
   exact cG (vs:=[.ref L.v]) (aD (aA rfl) aL) ⟨L,Z,rfl,hV,hok.pok,k⟩
  have nc19:¬c=19:=of_decide_eq_false e;rw[if_neg nc19] at k;dsimp only[bT];refine cD (bB (cP (aA rfl) aO)) (fun e=>?_) (fun e=>?_)
  ·have ec:c=20:=of_decide_eq_true e;rw[if_pos ec] at k;have hn:ns.length=1:=by rw[har,ec];rfl
   exact cG (vs:=[.ref L.v,.int (ns.getD 0 0)]) (aD (aA rfl) (aD (cS (aA rfl) aO (SqL.of hl) (at_ 0 (by omega))) aL)) ⟨L,Z,_,rfl,nn 0,hV,hok.pok,k⟩
  have nc20:¬c=20:=of_decide_eq_false e;rw[if_neg nc20] at k;dsimp only[bT];refine cD (bB (cP (aA rfl) aO)) (fun e=>?_) (fun e=>?_)
  ·have ec:c=21:=of_decide_eq_true e;rw[if_pos ec] at k;have hn:ns.length=1:=by rw[har,ec];rfl
   exact cG (vs:=[.ref L.v,.int (ns.getD 0 0)]) (aD (aA rfl) (aD (cS (aA rfl) aO (SqL.of hl) (at_ 0 (by omega))) aL)) ⟨L,Z,_,rfl,nn 0,hV,hok.pok,hok.span,k⟩
  have nc21:¬c=21:=of_decide_eq_false e;rw[if_neg nc21] at k;dsimp only[bT];refine cD (bB (cP (aA rfl) aO)) (fun e=>?_) (fun e=>?_)
  ·have ec:c=22:=of_decide_eq_true e;rw[if_pos ec] at k;have hn:ns.length=0:=by rw[har,ec];rfl
   exact cG (vs:=[.ref L.v]) (aD (aA rfl) aL) ⟨L,Z,rfl,hV,hok.pok,k⟩
  have nc22:¬c=22:=of_decide_eq_false e;rw[if_neg nc22] at k;dsimp only[bT];refine cD (bB (cP (aA rfl) aO)) (fun e=>?_) (fun e=>?_)
  ·have ec:c=23:=of_decide_eq_true e;rw[if_pos ec] at k;have hn:ns.length=1:=by rw[har,ec];rfl
   exact cG (vs:=[.ref L.v,.int (ns.getD 0 0)]) (aD (aA rfl) (aD (cS (aA rfl) aO (SqL.of hl) (at_ 0 (by omega))) aL)) ⟨L,Z,_,rfl,nn 0,hV,hok.ah,k⟩
  have nc23:¬c=23:=of_decide_eq_false e;rw[if_neg nc23] at k;dsimp only[bT];refine cD (bB (cP (aA rfl) aO)) (fun e=>?_) (fun e=>?_)
  ·have ec:c=24:=of_decide_eq_true e;rw[if_pos ec] at k;have hn:ns.length=0:=by rw[har,ec];rfl
   exact cG (vs:=[.ref L.v]) (aD (aA rfl) aL) ⟨L,Z,rfl,hV,hok.ah,k⟩
  have nc24:¬c=24:=of_decide_eq_false e;rw[if_neg nc24] at k;dsimp only[bT];refine cD (bB (cP (aA rfl) aO)) (fun e=>?_) (fun e=>?_)
  ·have ec:c=25:=of_decide_eq_true e;rw[if_pos ec] at k;have hn:ns.length=1:=by rw[har,ec];rfl
   exact cG (vs:=[.ref L.v,.int (ns.getD 0 0)]) (aD (aA rfl) (aD (cS (aA rfl) aO (SqL.of hl) (at_ 0 (by omega))) aL)) ⟨L,Z,_,rfl,nn 0,hV,hok.lots,k⟩
  have nc25:¬c=25:=of_decide_eq_false e;rw[if_neg nc25] at k;dsimp only[bT];refine cD (bB (cP (aA rfl) aO)) (fun e=>?_) (fun e=>?_)
  ·have ec:c=26:=of_decide_eq_true e;rw[if_pos ec] at k;have hn:ns.length=0:=by rw[har,ec];rfl
   exact cG (vs:=[.ref L.v]) (aD (aA rfl) aL) ⟨L,Z,rfl,hV,hok.st,k⟩
  have nc26:¬c=26:=of_decide_eq_false e;rw[if_neg nc26] at k;dsimp only[bT];refine cD (bB (cP (aA rfl) aO)) (fun e=>?_) (fun e=>?_)
  ·have ec:c=27:=of_decide_eq_true e;rw[if_pos ec] at k;have hn:ns.length=0:=by rw[har,ec];rfl
   exact cG (vs:=[.ref L.v]) (aD (aA rfl) aL) ⟨L,Z,rfl,hV,hok.hr,k⟩
  have nc27:¬c=27:=of_decide_eq_false e;rw[if_neg nc27] at k;dsimp only[bT];refine cD (bB (cP (aA rfl) aO)) (fun e=>?_) (fun e=>?_)
  ·have ec:c=28:=of_decide_eq_true e;rw[if_pos ec] at k;have hn:ns.length=1:=by rw[har,ec];rfl
   exact cG (vs:=[.ref L.v,.int (ns.getD 0 0)]) (aD (aA rfl) (aD (cS (aA rfl) aO (SqL.of hl) (at_ 0 (by omega))) aL)) ⟨L,Z,_,rfl,hV,hok.hr,k⟩
  have nc28:¬c=28:=of_decide_eq_false e;rw[if_neg nc28] at k;dsimp only[bT];have hn:ns.length=0:=by rw[har,show c=29 by omega];rfl
  exact cG (vs:=[.ref L.v]) (aD (aA rfl) aL) ⟨L,Z,rfl,hV,hok.st,hok.few,k⟩
end
structure eI where
 y:Addr
 lp:Addr
 lu:Addr
 now:Option bZ
 past:List bZ
 cW:List bZ
def eI.eN(Y:eI):List bZ:=Y.now.toList++(Y.past++Y.cW)
def r9:Option bZ→V
 |none=>.non
 |some L=>.ref L.v
def qT(a:Option bZ)(lp lu:Addr):List (Str×V):=[("vessel",r9 a),("past",.ref lp),("undone",.ref lu)]
def eI.own(Y:eI):List Addr:=[Y.y,Y.lp,Y.lu]
structure gE(n:bL)(H:Hp)(Y:eI)(W:CS.Voy):Prop where
 obj:gH H n.eK Y.y (qT Y.now Y.lp Y.lu)
 pl:H Y.lp=some (.lst (Y.past.map fun L=>V.ref L.v))
 ul:H Y.lu=some (.lst (Y.cW.map fun L=>V.ref L.v))
 ne:Y.lp≠Y.lu
 now:dJ (fun L Z=>bH n H L Z) Y.now.toList W.now.toList
 past:dJ (fun L Z=>bH n H L Z) Y.past W.past
 und:dJ (fun L Z=>bH n H L Z) Y.cW W.cW
 apart:∀L∈Y.eN,∀a∈Y.own,a∉L.all
section
variable{n:bL}{H H':Hp}{L:bZ}{Z:CS.aU}{Y Y':eI}{W W':CS.Voy}
theorem R4{a:Addr}:a∈L.all↔a=L.v∨a=L.w∨a=L.wl∨a=L.p∨a∈L.pl.fK∨a=L.t∨a=L.s∨a∈L.gs.map (·.1)∨a∈L.gX:=by
 unfold bZ.all bZ.aW bZ.aP bZ.aS;simp only[List.mem_cons,List.mem_append,List.not_mem_nil,or_false,or_assoc]
theorem bH.away{A:List Addr}(h:bH n H L Z)(c:Chg A H H')(hn:∀a∈A,a∉L.all):bH n H' L Z:=by
 have k:∀a,a∈L.all→a∉A:=fun a ha q=>hn a q ha;have m:=fun a=>(R4 (L:=L) (a:=a)).2;refine⟨h.obj.chg c (.inl (k _ (m _ (.inl rfl)))),h.way.chg c (k _ (m _ (.inr (.inl rfl)))) (k _ (m _ (.inr (.inr (.inl rfl))))),?_,h.tanks.chg c (.inl (k _ (m _ (.inr (.inr (.inr (.inr (.inr (.inl rfl))))))))),?_,h.dWP,h.dWS,h.dPS,h.pnd,h.sgl,h.ap⟩
 ·have kp:∀a,a∈L.pl.fK→a∉A:=fun a ha=>k _ (m _ (.inr (.inr (.inr (.inr (.inl ha))))));exact h.aF.chg c (k _ (m _ (.inr (.inr (.inr (.inl rfl)))))) (kp _ (by simp[fG.fK])) (kp _ (by simp[fG.fK])) (kp _ (by simp[fG.fK])) (kp _ (by simp[fG.fK])) (kp _ (by simp[fG.fK]))
 ·have kg:∀a,a∈L.gX→a∉A:=fun a ha=>k _ (m _ (.inr (.inr (.inr (.inr (.inr (.inr (.inr (.inr ha)))))))));exact h.stores.chg c (k _ (m _ (.inr (.inr (.inr (.inr (.inr (.inr (.inl rfl))))))))) (kg _ (by simp[bZ.gX])) (fun g hg=>k _ (m _ (.inr (.inr (.inr (.inr (.inr (.inr (.inr (.inl hg)))))))))) (fun g hg=>kg _ (by unfold bZ.gX;exact List.mem_cons_of_mem _ hg))
theorem bH.kH(h:bH n H L Z){a:Addr}(ha:a∈L.all):H a≠none:=by
 rcases R4.1 ha with rfl |rfl |rfl |rfl |ha |rfl |rfl |ha |ha
 ·obtain⟨d,e⟩:=h.obj;rw[e];exact fun q=>by cases q
 ·obtain⟨d,e⟩:=h.way.obj;rw[e];exact fun q=>by cases q
 ·obtain⟨d,e⟩:=h.isLW;rw[e];exact fun q=>by cases q
 ·obtain⟨d,e⟩:=h.aF.obj;rw[e];exact fun q=>by cases q
 ·obtain⟨d,e⟩:=h.aF.isL a ha;rw[e];exact fun q=>by cases q
 ·obtain⟨d,e⟩:=h.tanks;rw[e];exact fun q=>by cases q
 ·obtain⟨d,e⟩:=h.stores.obj;rw[e];exact fun q=>by cases q
 ·obtain⟨G,l,d,e⟩:=h.good a ha;rw[e];exact fun q=>by cases q
 ·obtain⟨d,e⟩:=h.isLG a ha;rw[e];exact fun q=>by cases q
theorem dJ.mem{α β:Type}{R:α→β→Prop}{as:List α}{xs:List β}(h:dJ R as xs){a:α}(ha:a∈as):∃x,x∈xs∧R a x:=by
 obtain⟨i,hi⟩:=List.getElem?_of_mem ha;obtain⟨x,hx,r⟩:=h.at' hi;exact⟨x,List.mem_of_getElem? hx,r⟩
theorem dJ.CT{α β:Type}{R S:α→β→Prop}{as:List α}{xs:List β}(h:dJ R as xs)(f:∀a∈as,∀x,R a x→S a x):dJ S as xs:=⟨h.1,fun i a x e1 e2=>f a (List.mem_of_getElem? e1) x (h.2 i a x e1 e2)⟩
theorem gE.same(h:gE n H Y W)(s:aX H H'):gE n H' Y W:=
 ⟨h.obj.same s,s _ _ h.pl,s _ _ h.ul,h.ne,h.now.cF fun _ _ q=>q.same s,h.past.cF fun _ _ q=>q.same s,h.und.cF fun _ _ q=>q.same s,h.apart⟩
theorem gE.re(h:gE n H Y W)(c:Chg Y.own H H')(hy:Y'.y=Y.y)(obj:gH H' n.eK Y.y (qT Y'.now Y'.lp Y'.lu))(pl:H' Y'.lp=some (.lst (Y'.past.map fun L=>V.ref L.v)))(ul:H' Y'.lu=some (.lst (Y'.cW.map fun L=>V.ref L.v)))(ne:Y'.lp≠Y'.lu)
  (hlp:Y'.lp=Y.lp∨H Y'.lp=none) (hlu:Y'.lu=Y.lu∨H Y'.lu=none)
  (now:dJ (fun L Z=>bH n H L Z) Y'.now.toList W'.now.toList) (past:dJ (fun L Z=>bH n H L Z) Y'.past W'.past) (und:dJ (fun L Z=>bH n H L Z) Y'.cW W'.cW)
  (sub:∀L∈Y'.eN,∀a∈Y.own,a∉L.all):gE n H' Y' W':=by
 have s1:∀L∈Y'.now.toList,L∈Y'.eN:=fun L q=>List.mem_append_left _ q;have s2:∀L∈Y'.past,L∈Y'.eN:=fun L q=>List.mem_append_right _ (List.mem_append_left _ q);have s3:∀L∈Y'.cW,L∈Y'.eN:=fun L q=>List.mem_append_right _ (List.mem_append_right _ q);have th:∀L∈Y'.eN,∃Z,bH n H L Z:=fun L hL=>by
  rcases List.mem_append.mp hL with q |q
  ·obtain⟨Z,_,r⟩:=now.mem q;exact⟨Z,r⟩
  ·rcases List.mem_append.mp q with q |q
   ·obtain⟨Z,_,r⟩:=past.mem q;exact⟨Z,r⟩
   ·obtain⟨Z,_,r⟩:=und.mem q;exact⟨Z,r⟩
 refine⟨by rw[hy];exact obj,pl,ul,ne,now.CT fun L hL Z q=>q.away c (sub L (s1 L hL)),past.CT fun L hL Z q=>q.away c (sub L (s2 L hL)),und.CT fun L hL Z q=>q.away c (sub L (s3 L hL)),fun L hL a ha q=>?_⟩;obtain⟨Z,hZ⟩:=th L hL;have hs:=sub L hL;unfold eI.own at ha hs;simp only[List.mem_cons,List.not_mem_nil,or_false] at ha hs
 rcases ha with rfl |rfl |rfl
 ·rw[hy] at q;exact hs _ (.inl rfl) q
 ·rcases hlp with e |e
  ·rw[e] at q;exact hs _ (.inr (.inl rfl)) q
  ·exact hZ.kH q e
 ·rcases hlu with e |e
  ·rw[e] at q;exact hs _ (.inr (.inr rfl)) q
  ·exact hZ.kH q e
def wA(n:bL)(H:Hp)(Y:eI)(x:CS.Voy×List Int)(Q:VK):Prop:=∀H' Y' r,Y'.y=Y.y→gE n H' Y' x.1→H' r=some (.lst (x.2.map V.int))→Chg Y.own H H'→(Y'.lp=Y.lp∨H Y'.lp=none)→(Y'.lu=Y.lu∨H Y'.lu=none)→H r=none→(∀L∈Y'.eN,L∈Y.eN∨∀a∈L.all,H a=none)→Q (.ref r) H'
theorem wA.no{x:CS.Voy×List Int}{Q:VK}{D:lB}{σ:L2.St}(k:wA n H Y x Q)(hY:gE n H Y W){c:Int}(e:x=(W,[c]))(hD:D.rt=Q):GF (EU (dD (tC (.int c)) eU)) D σ H:=by
 refine⟨(by show 1≤sizeLine;decide),fun r nr=>?_⟩;rw[hD];subst e;exact k _ Y r rfl (hY.same (aX.upd nr)) aH (Chg.same (aX.upd nr) _) (.inl rfl) (.inl rfl) nr fun L hL=>.inl hL
theorem wA.told{xs:List Int}{Q:VK}(k:wA n H Y (W,xs) Q)(hY:gE n H Y W):iM H xs Q:=fun H' r sm nr e=>k H' Y r rfl (hY.same sm) e (Chg.same sm _) (.inl rfl) (.inl rfl) nr fun L hL=>.inl hL
theorem wA.yes{H1:Hp}{x:CS.Voy×List Int}{Q:VK}{D:lB}{σ:L2.St}{tl:TA}(k:wA n H Y x Q)(hY:gE n H1 Y' x.1)(hy:Y'.y=Y.y)(c:Chg Y.own H H1)(hlp:Y'.lp=Y.lp∨H Y'.lp=none)(hlu:Y'.lu=Y.lu∨H Y'.lu=none)(hsh:∀L∈Y'.eN,L∈Y.eN∨∀a∈L.all,H a=none)(ha:EA tl σ H1 (x.2.map V.int))(hz:x.2.length≤1000)(hD:D.rt=Q):GF (EU tl) D σ H1:=by
 refine ha _ ⟨?_,fun r nr=>?_⟩
 ·rw[List.length_map];exact Nat.le_trans hz (by decide)
 ·rw[hD];exact k _ Y' r hy (hY.same (aX.upd nr)) aH (c.trans (Chg.same (aX.upd nr) _)) hlp hlu (c.dom _ nr) hsh
end
section
variable{P:Program}{w:World}{K:PySem.W.Frag}{mg:Str→Option Value}{aT:Heap}{n:bL}
def N4(n:bL):Sp:=fun vs H Q _=>∃p dx,vs=[.ref p]∧H p=some (.ins n.eK dx [])∧∀H' lp lu,H lp=none→H lu=none→gE n H' ⟨p,lp,lu,none,[],[]⟩ ⟨none,[],[]⟩→(∀b o,H b=some o→b≠p→H' b=some o)→Q .non H'
theorem O2(T:Txt K mg n):bK P w K mg aT CX0 1 n.zQ n.AB ["self"] (N4 n):=by
 refine T.SL.ok L8 (fun vs H Q E h=>?_) (fun cdv A bF s H vs Q E hr h=>?_)
 ·obtain⟨p,dx,rfl,_⟩:=h;rfl
 ·obtain⟨p,dx,rfl,hp,k⟩:=h;refine⟨_,(aE (bP (pv 0) pe_non rfl)
   (aE (bP (pv 0) (bJ aG) rfl)
   (aK (bP (pv 0) (bJ aG) rfl)))),?_⟩
  refine cN aO (aA rfl) hp T.dQ T.eF (by show 0 < 1000;decide) ?_;refine jR (fun _=>aA rfl) aH T.dQ T.fH (by show 1 < 1000;decide) fun lp hlp=>?_;have p0:lp≠p:=fun q=>by rw[q,aH] at hlp;cases hlp
  have nlp:=hlp;rw[bA p0] at nlp;refine jR (fun _=>aA rfl) aH T.dQ T.fP (by show 2 < 1000;decide) fun lu hlu=>?_;have u0:lu≠p:=fun q=>by rw[q,aH] at hlu;cases hlu
  have nlu:=hlu;rw[bA u0] at nlu;have u1:lu≠lp:=fun q=>by rw[q,aH] at nlu;cases nlu
  rw[bA u1,bA u0] at nlu;refine k _ lp lu nlp nlu ⟨⟨dx,by rw[aH];rfl⟩,?_,?_,Ne.symm u1,dJ.nil,dJ.nil,dJ.nil,fun L hL=>absurd hL (by simp[eI.eN])⟩ fun b o e hb=>?_
  ·exact aZ p0 (aZ (Ne.symm u1) (aZ p0 aH))
  ·exact aZ u0 aH
  ·have b1:b≠lp:=fun q=>by rw[q,nlp] at e;cases e
   have b2:b≠lu:=fun q=>by rw[q,nlu] at e;cases e
   exact aZ hb (aZ b2 (aZ hb (aZ b1 (aZ hb e))))
theorem SqT.keep{K:PySem.W.Frag}{H H':Hp}{a:Addr}{xs:List V}(e:aX H H')(h:SqT K H a xs):SqT K H' a xs:=by
 rcases h with(h |⟨o,h⟩) |h
 ·exact .inl (.inl (e _ _ h))
 ·exact .inl (.inr ⟨o,e _ _ h⟩)
 ·exact .inr h
theorem gp{K:PySem.W.Frag}{σ:L2.St}{H:Hp}{te:TE}{tt:TT}{i:Nat}{xs:List V}{rs:List (Bool×V)}{Q:VK}{tl:TA}(ha:EA tl σ H xs)(hz:xs.length≤1000)(hrs:rs.length=xs.length)
  (hb:∀(k:Nat) (x:V) (r:Bool×V),xs[k]? =some x→rs[k]? =some r→∀H',aX H H'→ET tt ((σ.set i none).set i (some x)) H' r.1∧(r.1=true→EV te ((σ.set i none).set i (some x)) H' r.2))
  (q:∀D H',H D=none→aX H H'→H' D=some (.lst (fD rs))→Q (.ref D) H'):tLc (iTup K (tTup tl)) (dB i) tt te [i] σ H Q:=by
 refine ha _ ⟨Nat.le_trans hz (by decide),fun p np=>⟨p,rfl,⟨_,SqT.of aH⟩,?_⟩⟩;have s1:aX H (upd H p (.tup xs)):=aX.upd np;exact Am (K:=K) (a:=p) (H:=upd H p (.tup xs)) (Q:=Q) (ti:=fun _ H R=>R (Itt K p) H) (fun R h=>h _ aX.rfl' (SqT.of aH)) (fun _ _ s h=>SqT.keep s h) (Nat.le_trans hz (by decide)) hrs (fun k x r hx hr H' sm=>hb k x r hx hr H' (s1.trans sm)) fun D H' nD sm e=>q D H' (s1.free nD) (s1.trans sm) e
theorem ZP{C:Addr}{sp:Sp}{E:XK}{t:TA}{vs:List V}{σ:L2.St}{H:Hp}{Q:VK}(ha:EA t σ H vs)(q:∀x dx,H x=none→H dx=none→dx≠x→sp (.ref x::(vs++[])) (upd (upd H dx (.own x)) x (.ins C dx [])) (fun v H'=>v=.non∧Q (.ref x) H') E):GV C sp [] E t σ H Q:=ha _ q
theorem s_fldT{K:PySem.W.Frag}{ta tv:TE}{f:Str}{D:lB}{σ:L2.St}{H:Hp}(h:tv σ H fun y H1=>ta σ H1 fun x H2=>∃a C dx fs,x=.ref a∧H2 a=some (.ins C dx fs)∧Cls K C∧bY K C f∧fs.length < 1000∧D.nx σ (upd H2 a (.ins C dx (cC f y fs)))):MS K ta tv f D σ H:=h
theorem Hc{C:Addr}{sp:Sp}{E:XK}{t:TA}{σ:L2.St}{H:Hp}{Q:VK}(h:t σ H fun vs H1=>∀x dx,H1 x=none→H1 dx=none→dx≠x→sp (.ref x::(vs++[])) (upd (upd H1 dx (.own x)) x (.ins C dx [])) (fun v H2=>v=.non∧Q (.ref x) H2) E):GV C sp [] E t σ H Q:=h
theorem uK{ta:TE}{tr:TA}{σ:L2.St}{H:Hp}{Q:List V→Hp→Prop}(h:ta σ H fun x H1=>tr σ H1 fun xs H2=>Q (x::xs) H2):dD ta tr σ H Q:=h
theorem UX{k:Nat}{σ:L2.St}{H:Hp}{Q:VK}{v:V}(h:σ[k]? =some (some v))(q:Q v H):fZ k σ H Q:=⟨v,h,q⟩
theorem sK{H:Hp}{x dx l:Addr}{o1 o2:HO}(h:(upd (upd H dx o1) x o2) l=none):H l=none∧l≠x:=by
 have h1:l≠x:=fun q=>by rw[q,aH] at h;cases h
 rw[bA h1] at h;have h2:l≠dx:=fun q=>by rw[q,aH] at h;cases h
 rw[bA h2] at h;exact⟨h,h1⟩
def pw(n:bL):Sp:=fun vs H Q _=>∃Y W a u f m g b r l,vs=[.ref Y.y,.int a,.int u,.int f,.int m,.int g,.int b,.int r,.int l]∧gE n H Y W∧wA n H Y (CS.qJ W a u f m g b r l) Q
theorem nk(T:Txt K mg n):bK P w K mg aT CX0 3 n.PB n.MU ["voyage","most","uses","fresh","makes","grey","black","room","last"] (pw n):=by
 refine T.OZ.ok yR (fun vs H Q E h=>?_) (fun cdv A bF s H vs Q E hr h=>?_)
 ·obtain⟨_,_,_,_,_,_,_,_,_,_,rfl,_⟩:=h;rfl
 ·obtain⟨Y,W,a,u,f,m,g,b,r,l,rfl,hY,k⟩:=h;obtain⟨dy,hy⟩:=hY.obj;unfold CS.qJ CS.RE at k;refine⟨_,(aE (bS (PW.pt (mI (dW (pcl (iY T) hr T.kE T.iS (kF T) (aB (pv 1) (aB aQ (aB aQ aG))))) (rL (bE fW (pv 2) aQ (bD _))))) (aK (aN (bJ (aB (aV rfl T.eC) aG)))) bG)
   (aE (bS (dW (kJ (bW (WH rfl) (by rfl) T.PJ boot_any (aB (mQ (g:=dB 10) (tt:=yK) (te:=(jH _ _ _ (dD _ (dD _ (dD _ eU))))) rfl yR.nd (pi_tup (Cz (aB (pv 3) (aB (pv 4) (aB (pv 5) (aB (pv 6) aG)))))) (gB (own:=[("litres",10)]) rfl) (fun _ _ _ _ _=>(pgn (i:=10) yR.nd)) (fun _ _ _ _ _=>mL) (fun _ _ _ _ _=>(pcl (iY T) hr T.kE T.iS (kF T) (aB (pv 10) (aB aQ (aB (aV rfl T.BF) aG)))))) aG)))) (aK (aN (bJ (aB (aV rfl T.eC) aG)))) bG)
   (aE (bS (PW.pt (mI (dW (pcl (iY T) hr T.kE T.iS (kF T) (aB (pv 7) (aB aQ (aB (aV rfl T.KD) aG))))) (rL (dW (pcl (iY T) hr T.kE T.iS (kF T) (aB (pv 8) (aB aQ (aB aQ aG)))))))) (aK (aN (bJ (aB (aV rfl T.eC) aG)))) bG)
   (aE (pst (i:=9) yR.nd (hJ T.cz (TY T) (hr.cF (by decide)) rfl T.sf (XN T) .nil gK (aB (pv 2) (aB (pv 3) (aB (pv 4) (aB (pv 5) (aB (pv 6) aG)))))))
   (aE (bP (pv 0) (hJ T.T8 (LP T) (hr.cF (by decide)) rfl T.iu (TJ T) .nil gK (aB (hJ T.Bn (j7 T) (hr.cF (by decide)) rfl T.m_Way (C5 T) .nil gK (aB (pv 8) aG)) (aB (hJ T.V1 (LV T) (hr.cF (by decide)) rfl T.jg (TU T) .nil gK (aB (pv 1) aG)) (aB (pv 9) (aB (hJ T.T7 (LX T) (hr.cF (by decide)) rfl T.bp (TF T) .nil gK (aB (pv 7) aG)) aG))))) rfl)
   (aE (bP (pv 0) (bJ aG) rfl)
   (aE (bP (pv 0) (bJ aG) rfl)
   (aK (aN (bJ (aB aQ aG))))))))))),?_⟩
  refine cD (lF (dX (bI (aD (aA rfl) (aD aO (aD aO aL))) ⟨_,_,_,rfl,rfl⟩)) fun _=>bB (bU (aA rfl) aO)) (fun e=>?_) (fun e=>?_)
  ·have e':(CS.cJ a 1 16||decide (u > 80))=true:=e;rw[e',Bool.true_or,if_pos rfl] at k;exact k.no hY rfl rfl
  have e':(CS.cJ a 1 16||decide (u > 80))=false:=e;rw[e',Bool.false_or] at k;dsimp only[bT];refine cD (dX (VG (bs:=[f,m,g,b].map fun x=>CS.cJ x 1 10000000) fun Q q=>?_)) (fun e=>?_) (fun e=>?_)
  ·refine gp (xs:=[.int f,.int m,.int g,.int b]) (rs:=[f,m,g,b].map fun x=>(true,V.bl (CS.cJ x 1 10000000))) (aD (aA rfl) (aD (aA rfl) (aD (aA rfl) (aD (aA rfl) aL)))) (by show 4≤1000;decide) rfl ?_ ?_
   ·intro j x r hx hr H' sm;have hx':([f,m,g,b].map V.int)[j]? =some x:=hx;rw[List.getElem?_map] at hx' hr
    cases hj:([f,m,g,b]:List Int)[j]? with
    |none=>rw[hj] at hx';cases hx'
    |some i=>
     rw[hj] at hx' hr;cases hx';cases hr;exact⟨fun Q q=>q,fun _=>bI (aD (aA rfl) (aD aO (aD aO aL))) ⟨_,_,_,rfl,rfl⟩⟩
   ·intro D H' nD sm e;refine q D H' nD sm ?_;rw[e,mC,List.map_map];rfl
  ·rw[e,Bool.true_or,if_pos rfl] at k;exact k.no hY rfl rfl
  rw[e,Bool.false_or] at k;dsimp only[bT];refine cD (lF (dX (bI (aD (aA rfl) (aD aO (aD aO aL))) ⟨_,_,_,rfl,rfl⟩)) fun _=>dX (bI (aD (aA rfl) (aD aO (aD aO aL))) ⟨_,_,_,rfl,rfl⟩)) (fun e=>?_) (fun e=>?_)
  ·have e2:(CS.cJ r 1 1000000000||CS.cJ l 1 60)=true:=e;rw[e2,if_pos rfl] at k;exact k.no hY rfl rfl
  have e2:(CS.cJ r 1 1000000000||CS.cJ l 1 60)=false:=e;rw[e2,if_neg Bool.false_ne_true] at k;dsimp only[bT];refine gR (C2 (vs:=[.int u,.int f,.int m,.int g,.int b]) (aD (aA rfl) (aD (aA rfl) (aD (aA rfl) (aD (aA rfl) (aD (aA rfl) aL))))) rfl fun t dt nt ndt hne=>?_);have s1:aX H (mkI H t dt n.dI (LH [.int u,.int f,.int m,.int g,.int b])):=aX.mkI nt ndt;have hT1:gH (mkI H t dt n.dI (LH [.int u,.int f,.int m,.int g,.int b])) n.dI t (lH ⟨u,f,m,g,b,f,0,0,0,0,0,0,0⟩):=⟨dt,aH⟩;generalize mkI H t dt n.dI (LH [.int u,.int f,.int m,.int g,.int b])=H1 at*;dsimp only[dB];refine s_fldT (Hc (uK ?_));refine ZP (vs:=[.int l]) (aD (aA rfl) aL) fun w' dw nw ndw hnw=>⟨w',dw,l,rfl,aH,fun H2 wl nwl hW2 keep2=>⟨rfl,?_⟩⟩;have s2:aX H1 H2:=aX.made nw ndw keep2;obtain⟨nwl1,hwlw⟩:=sK nwl;refine uK ?_;refine ZP (vs:=[.int a]) (aD (aA rfl) aL) fun p' dp np ndp hnp=>⟨p',dp,a,rfl,aH,fun H3 pl hNew hNd hP3 keep3=>⟨rfl,?_⟩⟩;have s3:aX H2 H3:=aX.made np ndp keep3;refine uK (UX (v:=.ref t) rfl (uK ?_));refine ZP (vs:=[.int r]) (aD (aA rfl) aL) fun st ds ns nds hns=>⟨st,ds,r,rfl,aH,fun H4 gl ngl hS4 keep4=>⟨rfl,?_⟩⟩;have s4:aX H3 H4:=aX.made ns nds keep4;obtain⟨ngl1,hgls⟩:=sK ngl;intro x dx nx ndx hne;refine⟨x,dx,[.ref w',.ref p',.ref t,.ref st],rfl,rfl,aH,rfl,?_⟩;rw[cO];have s5:aX H4 (upd (upd H4 dx (.own x)) x (.ins n.iP dx (FW [.ref w',.ref p',.ref t,.ref st]))):=aX.mkI nx ndx;have s24:=(s2.trans s3).trans s4;have newP:∀q∈pl.fK,H2 q=none:=fun q hq=>by
   obtain⟨e1,e2,e3,e4,e5⟩:=hNew;unfold fG.fK at hq;simp only[List.mem_cons,List.not_mem_nil,or_false] at hq
   rcases hq with rfl |rfl |rfl |rfl |rfl
   ·exact(sK e1).1
   ·exact(sK e2).1
   ·exact(sK e3).1
   ·exact(sK e4).1
   ·exact(sK e5).1
  obtain⟨ls,hwl,_⟩:=hW2.legs;have hV5:bH n (upd (upd H4 dx (.own x)) x (.ins n.iP dx (FW [.ref w',.ref p',.ref t,.ref st]))) ⟨x,w',wl,p',pl,t,st,gl,[]⟩ (CS.rT a u f m g b r l):=by
   refine⟨⟨dx,aH⟩,((hW2.same s3).same s4).same s5,(hP3.same s4).same s5,(hT1.same s24).same s5,hS4.same s5,fun hm=>?_,fun hm=>?_,fun q hq hm=>?_,hNd,fun hm=>?_,⟨List.nodup_nil,List.nodup_nil⟩⟩
   ·have:=newP _ hm;rw[hwl] at this;cases this
   ·have hm':wl=gl:=by simpa [bZ.gX] using hm
    rw[←hm',s3 _ _ hwl] at ngl1;cases ngl1
   ·obtain⟨xs,e⟩:=hP3.isL q hq;have hm':q=gl:=by simpa [bZ.gX] using hm
    rw[←hm',e] at ngl1;cases ngl1
   ·simp at hm
  have s15:=((s1.trans s24)).trans s5;have hnew:∀q,q∈(bZ.mk x w' wl p' pl t st gl []).all→H q=none:=fun q hq=>by
   rcases R4.1 hq with rfl |rfl |rfl |rfl |hq |rfl |rfl |hq |hq
   ·exact(s1.trans s24).free nx
   ·exact s1.free nw
   ·exact s1.free nwl1
   ·exact(s1.trans s2).free np
   ·exact(s1.trans s2).free (newP q hq)
   ·exact nt
   ·exact((s1.trans s2).trans s3).free ns
   ·simp at hq
   ·have :q=gl:=by simpa [bZ.gX] using hq
    rw[this];exact((s1.trans s2).trans s3).free ngl1
  generalize upd (upd H4 dx (.own x)) x (.ins n.iP dx (FW [.ref w',.ref p',.ref t,.ref st]))=H5 at*;have hY5:=hY.same s15;have hy5:=s15 _ _ hy;refine UX (v:=.ref Y.y) rfl ⟨Y.y,n.eK,dy,_,rfl,hy5,T.dQ,T.eF,by show 3 < 1000;decide,?_⟩;refine jR (fun _=>aA rfl) aH T.dQ T.fH (by show 3 < 1000;decide) fun lp nlp=>?_;have p0:lp≠Y.y:=fun q=>by rw[q,aH] at nlp;cases nlp
  rw[bA p0] at nlp;refine jR (fun _=>aA rfl) aH T.dQ T.fP (by show 3 < 1000;decide) fun lu nlu=>?_;have u0:lu≠Y.y:=fun q=>by rw[q,aH] at nlu;cases nlu
  rw[bA u0] at nlu;have u1:lu≠lp:=fun q=>by rw[q,aH] at nlu;cases nlu
  rw[bA u1,bA u0] at nlu;simp only[cO];have c5:Chg Y.own H5 (upd (upd (upd (upd (upd H5 Y.y (.ins n.eK dy (cC "vessel" (.ref x) (qT Y.now Y.lp Y.lu)))) lp (.lst [])) Y.y (.ins n.eK dy (cC "past" (.ref lp) (cC "vessel" (.ref x) (qT Y.now Y.lp Y.lu))))) lu (.lst [])) Y.y (.ins n.eK dy (cC "undone" (.ref lu) (cC "past" (.ref lp) (cC "vessel" (.ref x) (qT Y.now Y.lp Y.lu)))))):=by
   refine⟨fun q o e hq=>?_,fun q e=>?_⟩
   ·have q1:q≠lp:=fun z=>by rw[z,nlp] at e;cases e
    have q2:q≠lu:=fun z=>by rw[z,nlu] at e;cases e
    have q0:q≠Y.y:=fun z=>by
     rcases hq with hq |hq
     ·exact hq (by rw[z];simp[eI.own])
     ·rw[z,hy5] at e;cases e;cases hq
    exact aZ q0 (aZ q2 (aZ q0 (aZ q1 (aZ q0 e))))
   ·by_cases q0:q=Y.y
    ·rw[q0,aH] at e;cases e
    ·rw[bA q0] at e
     by_cases q2:q=lu
     ·rw[q2,aH] at e;cases e
     ·rw[bA q2,bA q0] at e
      by_cases q1:q=lp
      ·rw[q1,aH] at e;cases e
      ·rw[bA q1,bA q0] at e;exact e
  have hfin:gE n _ ⟨Y.y,lp,lu,some ⟨x,w',wl,p',pl,t,st,gl,[]⟩,[],[]⟩ ⟨some (CS.rT a u f m g b r l),[],[]⟩:=hY5.re c5 rfl ⟨dy,by rw[aH];rfl⟩ (aZ p0 (aZ (Ne.symm u1) (aZ p0 aH))) (aZ u0 aH) (Ne.symm u1) (.inr nlp) (.inr nlu) (dJ.tU dJ.nil hV5) dJ.nil dJ.nil (fun L hL q hq hm=>by
   have hL':L=⟨x,w',wl,p',pl,t,st,gl,[]⟩:=by simpa [eI.eN] using hL
   rw[hL'] at hm;have h0:=hnew q hm;unfold eI.own at hq;simp only[List.mem_cons,List.not_mem_nil,or_false] at hq
   rcases hq with rfl |rfl |rfl
   ·rw[hy] at h0;cases h0
   ·rw[hY.pl] at h0;cases h0
   ·rw[hY.ul] at h0;cases h0)
  refine k.yes (x:=(⟨some (CS.rT a u f m g b r l),[],[]⟩,[0])) hfin rfl ((Chg.same s15 _).trans c5) (.inr (s15.free nlp)) (.inr (s15.free nlu)) (fun L hL=>.inr (by
   have hL':L=⟨x,w',wl,p',pl,t,st,gl,[]⟩:=by simpa [eI.eN] using hL
   rw[hL'];exact hnew)) (aD aO aL) (by show 1≤1000;decide) rfl
end
section
variable{K:PySem.W.Frag}{σ:L2.St}{H:Hp}{D:lB}{ta tb to:TE}{l p C dx:Addr}{xs:List V}{x y:V}{f:Str}{fs:List (Str×V)}
theorem s_pop0(ho:EV to σ H (.ref l))(ha:EV ta σ H (.int 0))(hl:H l=some (.lst (x::xs)))(q:D.nx σ (upd H l (.lst xs))):BZ (tBM K "list" Db to (dD ta eU)) D σ H:=
 ho _ ⟨.inl ⟨rfl,_,SqL.of hl⟩,ha _ ⟨l,x::xs,0,0,x,rfl,rfl,hl,by decide,by decide,(by
  unfold PySem.seqIndex?;rw[List.length_cons];simp),rfl,q⟩⟩
theorem cy(ho:EV to σ H (.ref l))(hl:H l=some (.lst (xs++[y])))(hp:∀H',EV ta σ H' (.ref p))(h:H p=some (.ins C dx fs))(c:Cls K C)(n:bY K C f)(hz:fs.length < 1000)(q:D.nx σ (upd (upd H l (.lst xs)) p (.ins C dx (cC f y fs)))):MS K ta (tBM0 K "list" rPop to) f D σ H:=by
 refine ho _ ⟨.inl ⟨rfl,_,SqL.of hl⟩,l,xs++[y],y,rfl,rfl,hl,by simp,?_⟩;rw[List.dropLast_concat];have npl:p≠l:=fV h hl (by intro z;cases z);exact hp _ _ ⟨p,C,dx,fs,rfl,aZ npl h,c,n,hz,q⟩
end
def oZ(p:List bZ)(v:bZ):List bZ:=if (p++[v]).length > 20 then(p++[v]).eraseIdx 0 else p++[v]
theorem dJ.erase0{α β:Type}{R:α→β→Prop}{as:List α}{xs:List β}(h:dJ R as xs):dJ R (as.eraseIdx 0) (xs.eraseIdx 0):=by
 cases as with
 |nil=>
  cases xs with
  |nil=>exact dJ.nil
  |cons x xs=>exact absurd h.1 (by simp)
 |cons a as=>
  cases xs with
  |nil=>exact absurd h.1 (by simp)
  |cons x xs=>exact⟨by have:=h.1;simpa using this,fun i b z e1 e2=>h.2 (i+1) b z (by simpa using e1) (by simpa using e2)⟩
theorem dJ.keep{R:bZ→CS.aU→Prop}{as:List bZ}{xs:List CS.aU}{a:bZ}{x:CS.aU}(h:dJ R as xs)(r:R a x):dJ R (oZ as a) (CS.nP xs x):=by
 have hs:=h.tU r;unfold oZ CS.nP;rw[hs.1]
 split
 ·exact hs.erase0
 ·exact hs
theorem U0{p:List bZ}{v L:bZ}(h:L∈oZ p v):L∈p∨L=v:=by
 have :L∈p++[v]:=by
  unfold oZ at h
  split at h
  ·exact List.mem_of_mem_eraseIdx h
  ·exact h
 rcases List.mem_append.mp this with q |q
 ·exact .inl q
 ·exact .inr (by simpa using q)
theorem dJ.fk{α β:Type}{R:α→β→Prop}{as:List α}{xs:List β}{x:β}(h:dJ R as (xs++[x])):∃bs b,as=bs++[b]∧dJ R bs xs∧R b x:=by
 have hne:as≠[]:=fun q=>by rw[q] at h;have:=h.1;simp at this
 refine⟨as.dropLast,as.getLast hne,(List.dropLast_concat_getLast hne).symm,?_,?_⟩
 ·have hl:as.dropLast.length=xs.length:=by rw[List.length_dropLast,h.1];simp
  refine⟨hl,fun i b y e1 e2=>?_⟩;have hi:i < xs.length:=(List.getElem?_eq_some_iff.mp e2).1;refine h.2 i b y ?_ (by rw[List.getElem?_append_left hi];exact e2);rw[←List.dropLast_concat_getLast hne,List.getElem?_append_left (by omega)];exact e1
 ·refine h.2 xs.length _ x ?_ (by simp);have hl:as.length - 1=xs.length:=by rw[h.1];simp
  rw[←hl,List.getLast_eq_getElem];exact List.getElem?_eq_getElem _
section
variable{P:Program}{w:World}{K:PySem.W.Frag}{mg:Str→Option Value}{aT:Heap}{n:bL}
theorem gE.ZC{H:Hp}{Y:eI}{W:CS.Voy}{Z:CS.aU}(h:gE n H Y W)(e:W.now=some Z):∃L,Y.now=some L∧bH n H L Z:=by
 have h1:=h.now;rw[e] at h1
 cases q:Y.now with
 |none=>rw[q] at h1;exact absurd h1.1 (by simp)
 |some L=>
  rw[q] at h1;exact⟨L,rfl,h1.2 0 L Z rfl rfl⟩
def ik(n:bL):Sp:=fun vs H Q _=>∃Y W L Z,vs=[.ref Y.y]∧gE n H Y W∧Y.now=some L∧W.now=some Z∧W.past.length≤1000∧∀H' lu',H lu'=none→gE n H' { Y with lu:=lu',past:=oZ Y.past L,cW:=[] } { W with past:=CS.nP W.past Z,cW:=[] }→Chg Y.own H H'→Q .non H'
theorem ig(T:Txt K mg n):bK P w K mg aT CX0 1 n.JN n.KG ["voyage"] (ik n):=by
 refine T.IS.ok bw (fun vs H Q E h=>?_) (fun cdv A bF s H vs Q E hr h=>?_)
 ·obtain⟨_,_,_,_,rfl,_⟩:=h;rfl
 ·obtain⟨Y,W,L,Z,rfl,hY,eL,eZ,hz,k⟩:=h;obtain⟨dy,hy⟩:=hY.obj;have hpl:=hY.pl;have hlen:Y.past.length=W.past.length:=hY.past.1;have hnow:r9 Y.now=.ref L.v:=by rw[eL];rfl
  have nyl:Y.y≠Y.lp:=fV hy hpl (by intro z;cases z);have nyu:Y.y≠Y.lu:=fV hy hY.ul (by intro z;cases z);refine⟨_,(aE (eQ (nX PySem.F.plainAttrs_list PySem.F.slot_list_append PySem.F.type_list_append iQ (aI (pv 0) rfl) (aB (aI (pv 0) rfl) aG)))
   (aE (bS (bE fW (bW cM (by rfl) T.eE PySem.boot_len (aB (aI (pv 0) rfl) aG)) (aV rfl T.sP) (bD _)) (aK (eQ (nX PySem.F.plainAttrs_list PySem.F.slot_list_pop PySem.F.type_list_pop Ds (aI (pv 0) rfl) (aB aQ aG)))) bG)
   (aK (bP (pv 0) (bJ aG) rfl)))),?_⟩
  refine xR (y:=.ref L.v) (aJ (aA rfl) hy T.dQ T.fH rfl) hpl (dR (aJ (aA rfl) hy T.dQ T.eF rfl) hnow) (by rw[List.length_map,hlen];exact Nat.lt_of_le_of_lt hz (by decide)) ?_;have e1:(Y.past.map fun L=>V.ref L.v)++[V.ref L.v]=(Y.past++[L]).map fun L=>V.ref L.v:=by rw[List.map_append];rfl
  rw[e1];have hy1:upd H Y.lp (.lst ((Y.past++[L]).map fun L=>V.ref L.v)) Y.y=some (.ins n.eK dy (qT Y.now Y.lp Y.lu)):=aZ nyl hy;dsimp only;have fin:∀ps:List bZ,ps=oZ Y.past L→tSeq bT (MS K (fZ 0) (EU eU) "undone") { nx:=fun _ H'=>Q .non H',rt:=Q } [some (.ref Y.y)] (upd H Y.lp (.lst (ps.map fun L=>V.ref L.v))):=fun ps eps=>by
   have hy2:upd H Y.lp (.lst (ps.map fun L=>V.ref L.v)) Y.y=some (.ins n.eK dy (qT Y.now Y.lp Y.lu)):=aZ nyl hy;refine jR (fun _=>aA rfl) hy2 T.dQ T.fP (by show 3 < 1000;decide) fun lu nlu=>?_;have ulp:lu≠Y.lp:=fun q=>by rw[q,aH] at nlu;cases nlu
   rw[bA ulp] at nlu;have uy:lu≠Y.y:=fun q=>by rw[q,hy] at nlu;cases nlu
   have c:Chg Y.own H (upd (upd (upd H Y.lp (.lst (ps.map fun L=>V.ref L.v))) lu (.lst [])) Y.y (.ins n.eK dy (cC "undone" (.ref lu) (qT Y.now Y.lp Y.lu)))):=by
    have c1:Chg Y.own H (upd H Y.lp (.lst (ps.map fun L=>V.ref L.v))):=Chg.upd (by simp[eI.own]) hpl rfl;have c2:Chg Y.own (upd H Y.lp (.lst (ps.map fun L=>V.ref L.v))) (upd (upd H Y.lp (.lst (ps.map fun L=>V.ref L.v))) lu (.lst [])):=Chg.same (aX.upd (by rw[bA ulp];exact nlu)) _;have c3:Chg Y.own (upd (upd H Y.lp (.lst (ps.map fun L=>V.ref L.v))) lu (.lst [])) (upd (upd (upd H Y.lp (.lst (ps.map fun L=>V.ref L.v))) lu (.lst [])) Y.y (.ins n.eK dy (cC "undone" (.ref lu) (qT Y.now Y.lp Y.lu)))):=Chg.upd (by simp[eI.own]) (aZ (Ne.symm uy) hy2) rfl;exact(c1.trans c2).trans c3
   refine k _ lu nlu (hY.re c rfl ⟨dy,by rw[aH];rfl⟩ ?_ ?_ (Ne.symm ulp) (.inl rfl) (.inr nlu) hY.now (hY.past.keep ?_) dJ.nil ?_) c
   ·show(upd (upd _ lu _) Y.y _) Y.lp=some (.lst ((oZ Y.past L).map fun L=>V.ref L.v));rw[←eps];exact aZ (Ne.symm nyl) (aZ (Ne.symm ulp) aH)
   ·exact aZ uy aH
   ·obtain⟨L',e',hV⟩:=hY.ZC eZ;rw[eL] at e';cases e';exact hV
   ·intro L' hL';refine hY.apart L' ?_;unfold eI.eN at hL' ⊢;simp only[List.append_nil] at hL'
    rcases List.mem_append.mp hL' with q |q
    ·exact List.mem_append_left _ q
    ·rcases U0 q with q |q
     ·exact List.mem_append_right _ (List.mem_append_left _ q)
     ·rw[q,eL];simp
  refine cD (bB (bU (eT (aJ (aA rfl) hy1 T.dQ T.fH rfl) (SqL.of aH)) aO)) (fun e=>?_) (fun e=>?_)
  ·have e':(20:Int) < ((((Y.past++[L]).map fun L=>V.ref L.v).length:Nat):Int):=of_decide_eq_true e;rw[List.length_map] at e';have hk:(Y.past++[L]).eraseIdx 0=oZ Y.past L:=by unfold oZ;rw[if_pos (show(Y.past++[L]).length > 20 by omega)]
   cases hpp:Y.past++[L] with
   |nil=>exact absurd hpp (by simp)
   |cons a as=>
    rw[hpp] at hk hy1;refine s_pop0 (aJ (aA rfl) hy1 T.dQ T.fH rfl) aO aH ?_;rw[cO];exact fin as (by rw[←hk];rfl)
  ·have e':¬(20:Int) < ((((Y.past++[L]).map fun L=>V.ref L.v).length:Nat):Int):=of_decide_eq_false e;rw[List.length_map] at e';exact fin (Y.past++[L]) (by unfold oZ;rw[if_neg (show ¬(Y.past++[L]).length > 20 by omega)])
end
end CSP
namespace CS
theorem cU{p:Prop}[Decidable p]{a b:aU×List Int}(h1:a.2≠[])(h2:b.2≠[]):(if p then a else b).2≠[]:=by
 by_cases c:p
 ·rw[if_pos c];exact h1
 ·rw[if_neg c];exact h2
theorem Gb(V:aU)(a b c:Int):(CG V a b c).2≠[]:=by
 unfold CG;refine cU (List.cons_ne_nil _ _) ?_;refine cU (List.cons_ne_nil _ _) ?_;refine cU (List.cons_ne_nil _ _) ?_;refine cU (List.cons_ne_nil _ _) ?_;exact List.cons_ne_nil _ _
theorem Bx(V:aU)(a b:Int):(wE V a b).2≠[]:=by
 unfold wE;refine cU (List.cons_ne_nil _ _) ?_;refine cU (List.cons_ne_nil _ _) ?_;exact List.cons_ne_nil _ _
theorem ui(V:aU)(a b c d e:Int):(sE V a b c d e).2≠[]:=by
 unfold sE;refine cU (List.cons_ne_nil _ _) ?_;refine cU (List.cons_ne_nil _ _) ?_;refine cU (List.cons_ne_nil _ _) ?_;exact List.cons_ne_nil _ _
theorem wp(V:aU)(a b c d:Int):(sO V a b c d).2≠[]:=by
 unfold sO;refine cU (List.cons_ne_nil _ _) ?_;refine cU (List.cons_ne_nil _ _) ?_;refine cU (List.cons_ne_nil _ _) ?_;refine cU (List.cons_ne_nil _ _) ?_
 split <;> exact List.cons_ne_nil _ _
theorem tm(V:aU)(a:Int):(sL V a).2≠[]:=by
 unfold sL;refine cU (List.cons_ne_nil _ _) ?_;refine cU (List.cons_ne_nil _ _) ?_;exact List.cons_ne_nil _ _
theorem Bp(V:aU)(a:Int):(vG V a).2≠[]:=by
 unfold vG;refine cU (List.cons_ne_nil _ _) ?_;refine cU (List.cons_ne_nil _ _) ?_;refine cU (List.cons_ne_nil _ _) ?_;exact List.cons_ne_nil _ _
theorem Bl(V:aU)(a:Int):(tD V a).2≠[]:=by
 unfold tD;refine cU (List.cons_ne_nil _ _) (cU (List.cons_ne_nil _ _) (cU (List.cons_ne_nil _ _) (cU (cU (List.cons_ne_nil _ _) (List.cons_ne_nil _ _)) (cU (List.cons_ne_nil _ _) (List.cons_ne_nil _ _)))))
theorem Bv(V:aU)(a b:Int):(wI V a b).2≠[]:=by
 unfold wI;refine cU (List.cons_ne_nil _ _) ?_;refine cU (List.cons_ne_nil _ _) ?_;refine cU (List.cons_ne_nil _ _) ?_;refine cU (List.cons_ne_nil _ _) ?_;refine cU (List.cons_ne_nil _ _) ?_;exact List.cons_ne_nil _ _
theorem qa(V:aU)(a:Int):(pH V a).2≠[]:=by
 unfold pH;refine cU (List.cons_ne_nil _ _) ?_;refine cU (List.cons_ne_nil _ _) ?_;refine cU (List.cons_ne_nil _ _) ?_;refine cU (List.cons_ne_nil _ _) ?_;exact List.cons_ne_nil _ _
theorem lh(V:aU)(a b:Int):(pP V a b).2≠[]:=by
 unfold pP;refine cU (List.cons_ne_nil _ _) ?_;refine cU (List.cons_ne_nil _ _) ?_;refine cU (List.cons_ne_nil _ _) ?_;exact List.cons_ne_nil _ _
theorem Fl(V:aU)(a b c:Int):(CB V a b c).2≠[]:=by
 unfold CB;refine cU (List.cons_ne_nil _ _) ?_;refine cU (List.cons_ne_nil _ _) ?_;exact List.cons_ne_nil _ _
theorem xf(V:aU):(sB V).2≠[]:=by
 unfold sB;refine cU (List.cons_ne_nil _ _) ?_;exact List.cons_ne_nil _ _
theorem Hz(V:aU)(a:Int):(QZ V a).2≠[]:=by
 unfold QZ;refine cU (List.cons_ne_nil _ _) ?_;refine cU (List.cons_ne_nil _ _) ?_;refine cU (List.cons_ne_nil _ _) ?_;refine cU (List.cons_ne_nil _ _) ?_;exact List.cons_ne_nil _ _
theorem vt(V:aU)(a:Int):(kO V a).2≠[]:=by
 unfold kO;refine cU (List.cons_ne_nil _ _) ?_;refine cU (List.cons_ne_nil _ _) ?_;exact List.cons_ne_nil _ _
theorem my(V:aU)(c:Int)(l:List Int):(nR V c l).2≠[]:=by
 unfold nR;exact(cU (Gb V _ _ _) (cU (Bx V _ _) (cU (ui V _ _ _ _ _) (cU (wp V _ _ _ _) (cU (tm V _) (cU (Bp V _) (cU (Bl V _) (cU (Bv V _ _) (cU (qa V _) (cU (lh V _ _) (cU (Fl V _ _ _) (cU (xf V) (cU (Hz V _) (vt V _))))))))))))))
end CS
namespace CSP
open PySem PySem.Spec PyProof.Rows L2
section
variable{P:Program}{w:World}{K:PySem.W.Frag}{mg:Str→Option Value}{aT:Heap}{n:bL}
def Y3(n:bL):Sp:=fun vs H Q _=>∃Y W Z c l ns,vs=[.ref Y.y,.int c,.ref l]∧gE n H Y W∧W.now=some Z∧VOk Z∧W.past.length≤1000∧H l=some (.lst (ns.map V.int))∧ns.length=CS.cQ c∧(∀x∈ns,0≤x)∧1≤c∧c≤14∧wA n H Y (CS.rH W Z c ns) Q
theorem Z1(T:Txt K mg n):bK P w K mg aT CX0 8 n.EK n.FI ["voyage","call","numbers"] (Y3 n):=by
 refine T.DL.ok zW (fun vs H Q E h=>?_) (fun cdv A bF s H vs Q E hr h=>?_)
 ·obtain⟨_,_,_,_,_,_,rfl,_⟩:=h;rfl
 ·obtain⟨Y,W,Z,c,l,ns,rfl,hY,eZ,hok,hz,hl,har,hnn,hc1,hc2,k⟩:=h;obtain⟨dy,hy⟩:=hY.obj;obtain⟨L,eL,hV⟩:=hY.ZC eZ;obtain⟨dv,hv⟩:=hV.obj;have hnow:r9 Y.now=.ref L.v:=by rw[eL];rfl
  unfold CS.rH at k;dsimp only at k;refine⟨_,(aE (pst (i:=3) zW.nd (pM (aI (pv 0) rfl) T.bO T.LN (LK T) (hr.cF (by decide)) (UB T) .nil gK))
   (aE (pst (i:=4) zW.nd (pcl (yy T) hr T.Gc T.p9 (Ge T) (aB (pv 3) (aB (pv 1) (aB (pv 2) aG)))))
   (aE (bS (bE rD (cT bV (pv 4) aQ (fun _ _=>rfl)) aQ (bD _)) (aE (eQ (pcl (ig T) hr T.kt T.IS (pr T) (aB (pv 0) aG)))
   (aK (bP (pv 0) (pv 3) rfl))) bG)
   (aK (aN (pv 4)))))),?_⟩
  refine gR (uU (dR (aJ (aA rfl) hy T.dQ T.eF rfl) hnow) hv rfl ⟨L,Z,rfl,hV,hok.goods,fun H1 L1 nL1 hV1 s1=>?_⟩);dsimp only[dB];refine gR (cG (vs:=[.ref L1.v,.int c,.ref l]) (aD (aA rfl) (aD (aA rfl) (aD (aA rfl) aL))) ⟨L1,Z,c,l,ns,rfl,hV1,hok,s1 _ _ hl,har,hnn,hc1,hc2,fun H2 L2 r hv2 hV2 hr2 c2 hn2 nr=>?_⟩);dsimp only[dB];have s2:aX H H2:=aX.chg s1 c2 nL1;have nr':H r=none:=s1.free nr;have nL2:∀a∈L2.all,H a=none:=fun a ha=>by
   rcases hn2 a ha with q |q
   ·exact nL1 a q
   ·exact s1.free q
  have hne:=CS.my Z c ns;generalize CS.nR Z c ns=x at*;obtain⟨X,xs⟩:=x
  cases xs with
  |nil=>exact absurd rfl hne
  |cons x0 xs=>
   dsimp only at k hV2 hr2;have hY2:=hY.same s2;refine cD (bB (bU (cS (aA rfl) aO (SqL.of hr2) xc) aO)) (fun e=>?_) (fun e=>?_)
   ·have e':(0:Int)≤x0:=of_decide_eq_true e;rw[if_pos (show(x0::xs).getD 0 0≥0 from e')] at k;refine cG (vs:=[.ref Y.y]) (aD (aA rfl) aL) ⟨Y,W,L,Z,rfl,hY2,eL,eZ,hz,fun H3 lu' nlu hY3 c3=>?_⟩;obtain⟨dy3,hy3⟩:=hY3.obj;refine cN (aA rfl) (aA rfl) hy3 T.dQ T.eF (by show 3 < 1000;decide) ?_;have own2:∀a∈Y.own,a∉L2.all:=fun a ha q=>by
     have h0:=nL2 a q;unfold eI.own at ha;simp only[List.mem_cons,List.not_mem_nil,or_false] at ha
     rcases ha with rfl |rfl |rfl
     ·rw[hy] at h0;cases h0
     ·rw[hY.pl] at h0;cases h0
     ·rw[hY.ul] at h0;cases h0
    have hV3:bH n H3 L2 X:=hV2.away c3 own2;have lu2:lu'∉L2.all:=fun q=>hV2.kH q nlu
    have c4:Chg (eI.own { Y with lu:=lu',past:=oZ Y.past L,cW:=[] }) H3 (upd H3 Y.y (.ins n.eK dy3 (cC "vessel" (.ref L1.v) (qT Y.now Y.lp lu')))):=Chg.upd (by simp[eI.own]) hy3 rfl
    have hY4:gE n (upd H3 Y.y (.ins n.eK dy3 (cC "vessel" (.ref L1.v) (qT Y.now Y.lp lu')))) { Y with lu:=lu',past:=oZ Y.past L,cW:=[],now:=some L2 } ⟨some X,CS.nP W.past Z,[]⟩:=by
     have nyl:Y.lp≠Y.y:=Ne.symm (fV hy3 hY3.pl (by intro z;cases z));have nyu:lu'≠Y.y:=Ne.symm (fV hy3 hY3.ul (by intro z;cases z))
     refine hY3.re (Y':={ Y with lu:=lu',past:=oZ Y.past L,cW:=[],now:=some L2 }) c4 rfl ⟨dy3,by rw[aH,←hv2];rfl⟩ (aZ nyl hY3.pl) (aZ nyu hY3.ul) hY3.ne (.inl rfl) (.inl rfl) (dJ.tU dJ.nil hV3) hY3.past hY3.und ?_
     intro L' hL' a ha;unfold eI.eN at hL'
     rcases List.mem_append.mp hL' with q |q
     ·have :L'=L2:=by simpa using q
      rw[this];unfold eI.own at ha;simp only[List.mem_cons,List.not_mem_nil,or_false] at ha
      rcases ha with rfl |rfl |rfl
      ·exact own2 _ (by simp[eI.own])
      ·exact own2 _ (by simp[eI.own])
      ·exact lu2
     ·exact hY3.apart L' (List.mem_append_right _ q) a ha
    have c24:Chg Y.own H2 (upd H3 Y.y (.ins n.eK dy3 (cC "vessel" (.ref L1.v) (qT Y.now Y.lp lu')))):=c3.trans (Chg.upd (by simp[eI.own]) hy3 rfl);refine dO (aA rfl) ?_;have hrn:r∉Y.own:=fun q=>by
     unfold eI.own at q;simp only[List.mem_cons,List.not_mem_nil,or_false] at q
     rcases q with rfl |rfl |rfl
     ·rw[hy] at nr';cases nr'
     ·rw[hY.pl] at nr';cases nr'
     ·rw[hY.ul] at nr';cases nr'
    exact k _ { Y with lu:=lu',past:=oZ Y.past L,cW:=[],now:=some L2 } r rfl hY4 (c24.keep _ _ hr2 (.inl hrn)) ((Chg.same s2 _).trans c24) (.inl rfl) (.inr (s2.free nlu)) nr' fun L' hL'=>by
     unfold eI.eN at hL'
     rcases List.mem_append.mp hL' with q |q
     ·have :L'=L2:=by simpa using q
      rw[this];exact .inr nL2
     ·have q':L'∈oZ Y.past L:=by simpa using q
      unfold eI.eN
      rcases U0 q' with q |q
      ·exact .inl (List.mem_append_right _ (List.mem_append_left _ q))
      ·rw[q,eL];exact .inl (by simp)
   ·have e':¬(0:Int)≤x0:=of_decide_eq_false e;rw[if_neg (show ¬(x0::xs).getD 0 0≥0 from e')] at k;dsimp only[bT];refine dO (aA rfl) ?_;exact k _ Y r rfl hY2 hr2 (Chg.same s2 _) (.inl rfl) (.inl rfl) nr' fun L hL=>.inl hL
theorem len0{α:Type}{l:List α}:decide (((l.length:Nat):Int)=0)=decide (l=[]):=by
 cases l with
 |nil=>rfl
 |cons a l=>rw[decide_eq_false (by rw[List.length_cons];omega),decide_eq_false (by simp)]
theorem yd(T:Txt K mg n):bK P w K mg aT CX0 1 n.XM n.YD ["voyage"] (fun vs H Q _=>∃Y W Z,vs=[.ref Y.y]∧gE n H Y W∧W.now=some Z∧W.cW.length≤1000∧wA n H Y (CS.DH W Z) Q):=by
 refine T.UT.ok xk (fun vs H Q E h=>?_) (fun cdv A bF s H vs Q E hr h=>?_)
 ·obtain⟨_,_,_,rfl,_⟩:=h;rfl
 ·obtain⟨Y,W,Z,rfl,hY,eZ,hz,k⟩:=h;obtain⟨dy,hy⟩:=hY.obj;obtain⟨L,eL,hV⟩:=hY.ZC eZ;have hpl:=hY.pl;have hul:=hY.ul;have hnow:r9 Y.now=.ref L.v:=by rw[eL];rfl
  have nyl:Y.y≠Y.lp:=fV hy hpl (by intro z;cases z);have nyu:Y.y≠Y.lu:=fV hy hul (by intro z;cases z);have hlen:(((Y.past.map fun L=>V.ref L.v).length:Nat):Int)=((W.past.length:Nat):Int):=by rw[List.length_map,hY.past.1]
  unfold CS.DH at k;refine⟨_,(aE (bS (bE cY (bW cM (by rfl) T.eE PySem.boot_len (aB (aI (pv 0) rfl) aG)) aQ (bD _)) (aK (aN (bJ (aB (aV rfl T.hC) aG)))) bG)
   (aE (eQ (nX PySem.F.plainAttrs_list PySem.F.slot_list_append PySem.F.type_list_append iQ (aI (pv 0) rfl) (aB (aI (pv 0) rfl) aG)))
   (aE (bP (pv 0) (iy PySem.F.plainAttrs_list PySem.F.slot_list_pop PySem.F.type_list_pop jh (aI (pv 0) rfl)) rfl)
   (aK (aN (bJ (aB (bW cM (by rfl) T.eE PySem.boot_len (aB (aI (pv 0) rfl) aG)) aG))))))),?_⟩
  refine cD (bB (cP (dR (eT (aJ (aA rfl) hy T.dQ T.fH rfl) (SqL.of hpl)) (congrArg V.int hlen)) aO)) (fun e=>?_) (fun e=>?_)
  ·rw[len0] at e;rw[of_decide_eq_true e] at k;exact k.no hY rfl rfl
  rw[len0] at e;have hne:W.past≠[]:=of_decide_eq_false e;have hsplit:W.past=W.past.dropLast++[W.past.getLast hne]:=(List.dropLast_concat_getLast hne).symm;rw[List.getLast?_eq_some_getLast hne] at k;dsimp only at k;generalize W.past.dropLast=ws at*;generalize W.past.getLast hne=Z0 at*;have hp2:=hY.past;rw[hsplit] at hp2;obtain⟨ps,L0,ep,hps,hV0⟩:=hp2.fk;dsimp only[bT];refine xR (y:=.ref L.v) (aJ (aA rfl) hy T.dQ T.fP rfl) hul (dR (aJ (aA rfl) hy T.dQ T.eF rfl) hnow) (by rw[List.length_map,hY.und.1];exact Nat.lt_of_le_of_lt hz (by decide)) ?_;have e1:(Y.cW.map fun L=>V.ref L.v)++[V.ref L.v]=(Y.cW++[L]).map fun L=>V.ref L.v:=by rw[List.map_append];rfl
  rw[e1];have hy1:upd H Y.lu (.lst ((Y.cW++[L]).map fun L=>V.ref L.v)) Y.y=some (.ins n.eK dy (qT Y.now Y.lp Y.lu)):=aZ nyu hy;have hpl1:upd H Y.lu (.lst ((Y.cW++[L]).map fun L=>V.ref L.v)) Y.lp=some (.lst ((ps.map fun L=>V.ref L.v)++[V.ref L0.v])):=by
   refine aZ hY.ne ?_;rw[hpl,ep,List.map_append];rfl
  dsimp only;refine cy (aJ (aA rfl) hy1 T.dQ T.fH rfl) hpl1 (fun _=>aA rfl) hy1 T.dQ T.eF (by show 3 < 1000;decide) ?_;have c:Chg Y.own H (upd (upd (upd H Y.lu (.lst ((Y.cW++[L]).map fun L=>V.ref L.v))) Y.lp (.lst (ps.map fun L=>V.ref L.v))) Y.y (.ins n.eK dy (cC "vessel" (.ref L0.v) (qT Y.now Y.lp Y.lu)))):=by
   have c1:Chg Y.own H (upd H Y.lu (.lst ((Y.cW++[L]).map fun L=>V.ref L.v))):=Chg.upd (by simp[eI.own]) hul rfl;have c2:Chg Y.own (upd H Y.lu (.lst ((Y.cW++[L]).map fun L=>V.ref L.v))) (upd (upd H Y.lu (.lst ((Y.cW++[L]).map fun L=>V.ref L.v))) Y.lp (.lst (ps.map fun L=>V.ref L.v))):=Chg.upd (by simp[eI.own]) hpl1 rfl;exact(c1.trans c2).trans (Chg.upd (by simp[eI.own]) (aZ nyl hy1) rfl)
  have hL:L∈Y.eN:=by unfold eI.eN;rw[eL];simp
  have hsub:∀q∈Y.past,q∈Y.eN:=fun q hq=>by unfold eI.eN;exact List.mem_append_right _ (List.mem_append_left _ hq)
  have hinc:∀L'∈eI.eN ⟨Y.y,Y.lp,Y.lu,some L0,ps,Y.cW++[L]⟩,L'∈Y.eN:=by
   intro L' hL';unfold eI.eN at hL'
   rcases List.mem_append.mp hL' with q |q
   ·have :L'=L0:=by simpa using q
    rw[this];exact hsub _ (by rw[ep];simp)
   ·rcases List.mem_append.mp q with q |q
    ·exact hsub _ (by rw[ep];exact List.mem_append_left _ q)
    ·rcases List.mem_append.mp q with q |q
     ·unfold eI.eN;exact List.mem_append_right _ (List.mem_append_right _ q)
     ·have :L'=L:=by simpa using q
      rw[this];exact hL
  have hfin:gE n (upd (upd (upd H Y.lu (.lst ((Y.cW++[L]).map fun L=>V.ref L.v))) Y.lp (.lst (ps.map fun L=>V.ref L.v))) Y.y (.ins n.eK dy (cC "vessel" (.ref L0.v) (qT Y.now Y.lp Y.lu)))) ⟨Y.y,Y.lp,Y.lu,some L0,ps,Y.cW++[L]⟩ ⟨some Z0,ws,W.cW++[Z]⟩:=by
   refine hY.re c rfl ⟨dy,by rw[aH];rfl⟩ (aZ (Ne.symm nyl) aH) (aZ (Ne.symm nyu) (aZ (Ne.symm hY.ne) aH)) hY.ne (.inl rfl) (.inl rfl) (dJ.tU dJ.nil hV0) hps (hY.und.tU hV) ?_;exact fun L' hL'=>hY.apart L' (hinc L' hL')
  obtain⟨dy2,hy2⟩:=hfin.obj;have hpl2:=hfin.pl;have hl2:(((ps.map fun L=>V.ref L.v).length:Nat):Int)=((ws.length:Nat):Int):=by rw[List.length_map,hps.1]
  exact k.yes hfin rfl c (.inl rfl) (.inl rfl) (fun L' hL'=>.inl (hinc L' hL')) (aD (dR (eT (aJ (aA rfl) hy2 T.dQ T.fH rfl) (SqL.of hpl2)) (congrArg V.int hl2)) aL) (by show 1≤1000;decide) rfl
theorem oo(T:Txt K mg n):bK P w K mg aT CX0 1 n.OX n.NB ["voyage"] (fun vs H Q _=>∃Y W Z,vs=[.ref Y.y]∧gE n H Y W∧W.now=some Z∧W.past.length≤1000∧wA n H Y (CS.yN W Z) Q):=by
 refine T.QM.ok og (fun vs H Q E h=>?_) (fun cdv A bF s H vs Q E hr h=>?_)
 ·obtain⟨_,_,_,rfl,_⟩:=h;rfl
 ·obtain⟨Y,W,Z,rfl,hY,eZ,hz,k⟩:=h;obtain⟨dy,hy⟩:=hY.obj;obtain⟨L,eL,hV⟩:=hY.ZC eZ;have hpl:=hY.pl;have hul:=hY.ul;have hnow:r9 Y.now=.ref L.v:=by rw[eL];rfl
  have nyl:Y.y≠Y.lp:=fV hy hpl (by intro z;cases z);have nyu:Y.y≠Y.lu:=fV hy hul (by intro z;cases z);have hlen:(((Y.cW.map fun L=>V.ref L.v).length:Nat):Int)=((W.cW.length:Nat):Int):=by rw[List.length_map,hY.und.1]
  unfold CS.yN at k;refine⟨_,(aE (bS (bE cY (bW cM (by rfl) T.eE PySem.boot_len (aB (aI (pv 0) rfl) aG)) aQ (bD _)) (aK (aN (bJ (aB (aV rfl T.hC) aG)))) bG)
   (aE (eQ (nX PySem.F.plainAttrs_list PySem.F.slot_list_append PySem.F.type_list_append iQ (aI (pv 0) rfl) (aB (aI (pv 0) rfl) aG)))
   (aE (bP (pv 0) (iy PySem.F.plainAttrs_list PySem.F.slot_list_pop PySem.F.type_list_pop jh (aI (pv 0) rfl)) rfl)
   (aK (aN (bJ (aB (bW cM (by rfl) T.eE PySem.boot_len (aB (aI (pv 0) rfl) aG)) aG))))))),?_⟩
  refine cD (bB (cP (dR (eT (aJ (aA rfl) hy T.dQ T.fP rfl) (SqL.of hul)) (congrArg V.int hlen)) aO)) (fun e=>?_) (fun e=>?_)
  ·rw[len0] at e;rw[of_decide_eq_true e] at k;exact k.no hY rfl rfl
  rw[len0] at e;have hne:W.cW≠[]:=of_decide_eq_false e;have hsplit:W.cW=W.cW.dropLast++[W.cW.getLast hne]:=(List.dropLast_concat_getLast hne).symm;rw[List.getLast?_eq_some_getLast hne] at k;dsimp only at k;generalize W.cW.dropLast=ws at*;generalize W.cW.getLast hne=Z0 at*;have hp2:=hY.und;rw[hsplit] at hp2;obtain⟨ps,L0,ep,hps,hV0⟩:=hp2.fk;dsimp only[bT];refine xR (y:=.ref L.v) (aJ (aA rfl) hy T.dQ T.fH rfl) hpl (dR (aJ (aA rfl) hy T.dQ T.eF rfl) hnow) (by rw[List.length_map,hY.past.1];exact Nat.lt_of_le_of_lt hz (by decide)) ?_;have e1:(Y.past.map fun L=>V.ref L.v)++[V.ref L.v]=(Y.past++[L]).map fun L=>V.ref L.v:=by rw[List.map_append];rfl
  rw[e1];have hy1:upd H Y.lp (.lst ((Y.past++[L]).map fun L=>V.ref L.v)) Y.y=some (.ins n.eK dy (qT Y.now Y.lp Y.lu)):=aZ nyl hy;have hul1:upd H Y.lp (.lst ((Y.past++[L]).map fun L=>V.ref L.v)) Y.lu=some (.lst ((ps.map fun L=>V.ref L.v)++[V.ref L0.v])):=by
   refine aZ (Ne.symm hY.ne) ?_;rw[hul,ep,List.map_append];rfl
  dsimp only;refine cy (aJ (aA rfl) hy1 T.dQ T.fP rfl) hul1 (fun _=>aA rfl) hy1 T.dQ T.eF (by show 3 < 1000;decide) ?_;have c:Chg Y.own H (upd (upd (upd H Y.lp (.lst ((Y.past++[L]).map fun L=>V.ref L.v))) Y.lu (.lst (ps.map fun L=>V.ref L.v))) Y.y (.ins n.eK dy (cC "vessel" (.ref L0.v) (qT Y.now Y.lp Y.lu)))):=by
   have c1:Chg Y.own H (upd H Y.lp (.lst ((Y.past++[L]).map fun L=>V.ref L.v))):=Chg.upd (by simp[eI.own]) hpl rfl;have c2:Chg Y.own (upd H Y.lp (.lst ((Y.past++[L]).map fun L=>V.ref L.v))) (upd (upd H Y.lp (.lst ((Y.past++[L]).map fun L=>V.ref L.v))) Y.lu (.lst (ps.map fun L=>V.ref L.v))):=Chg.upd (by simp[eI.own]) hul1 rfl;exact(c1.trans c2).trans (Chg.upd (by simp[eI.own]) (aZ nyu hy1) rfl)
  have hL:L∈Y.eN:=by unfold eI.eN;rw[eL];simp
  have hsub:∀q∈Y.cW,q∈Y.eN:=fun q hq=>by unfold eI.eN;exact List.mem_append_right _ (List.mem_append_right _ hq)
  have hinc:∀L'∈eI.eN ⟨Y.y,Y.lp,Y.lu,some L0,Y.past++[L],ps⟩,L'∈Y.eN:=by
   intro L' hL';unfold eI.eN at hL'
   rcases List.mem_append.mp hL' with q |q
   ·have :L'=L0:=by simpa using q
    rw[this];exact hsub _ (by rw[ep];simp)
   ·rcases List.mem_append.mp q with q |q
    ·rcases List.mem_append.mp q with q |q
     ·unfold eI.eN;exact List.mem_append_right _ (List.mem_append_left _ q)
     ·have :L'=L:=by simpa using q
      rw[this];exact hL
    ·exact hsub _ (by rw[ep];exact List.mem_append_left _ q)
  have hfin:gE n (upd (upd (upd H Y.lp (.lst ((Y.past++[L]).map fun L=>V.ref L.v))) Y.lu (.lst (ps.map fun L=>V.ref L.v))) Y.y (.ins n.eK dy (cC "vessel" (.ref L0.v) (qT Y.now Y.lp Y.lu)))) ⟨Y.y,Y.lp,Y.lu,some L0,Y.past++[L],ps⟩ ⟨some Z0,W.past++[Z],ws⟩:=by
   refine hY.re c rfl ⟨dy,by rw[aH];rfl⟩ (aZ (Ne.symm nyl) (aZ hY.ne aH)) (aZ (Ne.symm nyu) aH) hY.ne (.inl rfl) (.inl rfl) (dJ.tU dJ.nil hV0) (hY.past.tU hV) hps ?_;exact fun L' hL'=>hY.apart L' (hinc L' hL')
  obtain⟨dy2,hy2⟩:=hfin.obj;have hul2:=hfin.ul;have hl2:(((ps.map fun L=>V.ref L.v).length:Nat):Int)=((ws.length:Nat):Int):=by rw[List.length_map,hps.1]
  exact k.yes hfin rfl c (.inl rfl) (.inl rfl) (fun L' hL'=>.inl (hinc L' hL')) (aD (dR (eT (aJ (aA rfl) hy2 T.dQ T.fP rfl) (SqL.of hul2)) (congrArg V.int hl2)) aL) (by show 1≤1000;decide) rfl
theorem ao{tl:TA}{σ:L2.St}{H:Hp}{vs:List V}{Q:VK}(ha:EA tl σ H vs)(hz:vs.length≤1000)(q:∀p,H p=none→Q (.ref p) (upd H p (.lst vs))):EU tl σ H Q:=ha _ ⟨Nat.le_trans hz (by decide),q⟩
theorem e_opT{r:R2}{ta tb:TE}{σ:L2.St}{H:Hp}{Q:VK}(h:ta σ H fun x H1=>tb σ H1 fun y H2=>r x y H2 Q):tOp r ta tb σ H Q:=h
theorem s_retT{ta:TE}{σ:L2.St}{H:Hp}{D:lB}(h:ta σ H D.rt):GF ta D σ H:=h
theorem mt(T:Txt K mg n):bK P w K mg aT CX0 2 n.SG n.RU ["voyage"] (fun vs H Q _=>∃Y W Z,vs=[.ref Y.y]∧gE n H Y W∧W.now=some Z∧iM H (CS.yD W Z) Q):=by
 refine T.QA.ok yX (fun vs H Q E h=>?_) (fun cdv A bF s H vs Q E hr h=>?_)
 ·obtain⟨_,_,_,rfl,_⟩:=h;rfl
 ·obtain⟨Y,W,Z,rfl,hY,eZ,k⟩:=h;obtain⟨dy,hy⟩:=hY.obj;obtain⟨L,eL,hV⟩:=hY.ZC eZ;obtain⟨dv,hv⟩:=hV.obj;obtain⟨dw,hw⟩:=hV.way.obj;obtain⟨ds,hs⟩:=hV.stores.obj;obtain⟨dp,hp⟩:=hV.aF.obj;obtain⟨las,hla,hlall⟩:=id hV.way.legs;obtain⟨pas,hpa,hpall⟩:=id hV.aF.parties;have hgl:=hV.stores.lst;have hgall:=hV.stores.goods;have hnow:r9 Y.now=.ref L.v:=by rw[eL];rfl
  have l1:(((las.map V.ref).length:Nat):Int)=((Z.way.legs.length:Nat):Int):=by rw[List.length_map,hlall.1]
  have l2:(((L.gs.map fun p=>V.ref p.1).length:Nat):Int)=((Z.stores.goods.length:Nat):Int):=by rw[List.length_map,hgall.1]
  have l3:(((pas.map V.ref).length:Nat):Int)=((Z.aF.parties.length:Nat):Int):=by rw[List.length_map,hpall.1]
  have l4:(((Y.past.map fun L=>V.ref L.v).length:Nat):Int)=((W.past.length:Nat):Int):=by rw[List.length_map,hY.past.1]
  have l5:(((Y.cW.map fun L=>V.ref L.v).length:Nat):Int)=((W.cW.length:Nat):Int):=by rw[List.length_map,hY.und.1]
  refine⟨_,(aE (pst (i:=1) yX.nd (aI (pv 0) rfl))
   (aE (pst (i:=2) yX.nd (aI (pv 1) rfl))
   (aE (pst (i:=3) yX.nd (bJ (aB (bW cM (by rfl) T.eE PySem.boot_len (aB (aI (pv 2) rfl) aG)) (aB (bW cM (by rfl) T.eE PySem.boot_len (aB (aI (aI (pv 1) rfl) rfl) aG)) (aB (bW cM (by rfl) T.eE PySem.boot_len (aB (aI (aI (pv 1) rfl) rfl) aG)) aG)))))
   (aK (aN (dG Bt (dG Bt (bJ (aB (aI (pv 2) rfl) (aB (pcl (xL T) hr T.CJ T.vB (CN T) (aB (pv 2) aG)) aG))) (pv 3)) (bJ (aB (bW cM (by rfl) T.eE PySem.boot_len (aB (aI (pv 0) rfl) aG)) (aB (bW cM (by rfl) T.eE PySem.boot_len (aB (aI (pv 0) rfl) aG)) aG))))))))),?_⟩
  refine cI (v:=.ref L.v) (dR (aJ (aA rfl) hy T.dQ T.eF rfl) hnow) ?_;dsimp only;refine cI (aJ (aA rfl) hv T.bO T.dF rfl) ?_;dsimp only;refine gR (ao (vs:=[.int ((Z.way.legs.length:Nat):Int),.int ((Z.stores.goods.length:Nat):Int),.int ((Z.aF.parties.length:Nat):Int)]) (aD (dR (eT (aJ (aA rfl) hw T.dM T.fO rfl) (SqL.of hla)) (congrArg V.int l1)) (aD (dR (eT (aJ (aJ (aA rfl) hv T.bO T.eB rfl) hs T.gF T.eA rfl) (SqL.of hgl)) (congrArg V.int l2)) (aD (dR (eT (aJ (aJ (aA rfl) hv T.bO T.cE rfl) hp T.aY T.dL rfl) (SqL.of hpa)) (congrArg V.int l3)) aL))) (by show 3≤1000;decide) fun p1 n1=>?_);dsimp only[dB];have s1:aX H (upd H p1 (.lst [.int ((Z.way.legs.length:Nat):Int),.int ((Z.stores.goods.length:Nat):Int),.int ((Z.aF.parties.length:Nat):Int)])):=aX.upd n1;have h1:upd H p1 (.lst [.int ((Z.way.legs.length:Nat):Int),.int ((Z.stores.goods.length:Nat):Int),.int ((Z.aF.parties.length:Nat):Int)]) p1=some (.lst [.int ((Z.way.legs.length:Nat):Int),.int ((Z.stores.goods.length:Nat):Int),.int ((Z.aF.parties.length:Nat):Int)]):=aH;generalize upd H p1 (.lst [.int ((Z.way.legs.length:Nat):Int),.int ((Z.stores.goods.length:Nat):Int),.int ((Z.aF.parties.length:Nat):Int)])=H1 at*;refine s_retT (e_opT (e_opT (ao (vs:=[.int Z.way.hour,.int (CS.today Z.way)]) (aD (aJ (aA rfl) (s1 _ _ hw) T.dM T.dS rfl) (aD (bI (aD (aA rfl) aL) ⟨L.w,L.wl,Z.way,rfl,hV.way.same s1,rfl⟩) aL)) (by show 2≤1000;decide) fun p2 n2=>?_)));have s2:aX H1 (upd H1 p2 (.lst [.int Z.way.hour,.int (CS.today Z.way)])):=aX.upd n2;have h2:upd H1 p2 (.lst [.int Z.way.hour,.int (CS.today Z.way)]) p2=some (.lst [.int Z.way.hour,.int (CS.today Z.way)]):=aH;generalize upd H1 p2 (.lst [.int Z.way.hour,.int (CS.today Z.way)])=H2 at*;refine UX (v:=.ref p1) rfl ⟨p2,p1,_,_,rfl,rfl,h2,s2 _ _ h1,by show 2+3≤sizeLine;decide,fun p3 n3=>?_⟩;have s3:aX H2 (upd H2 p3 (.lst ([.int Z.way.hour,.int (CS.today Z.way)]++[.int ((Z.way.legs.length:Nat):Int),.int ((Z.stores.goods.length:Nat):Int),.int ((Z.aF.parties.length:Nat):Int)]))):=aX.upd n3;have h3:upd H2 p3 (.lst ([.int Z.way.hour,.int (CS.today Z.way)]++[.int ((Z.way.legs.length:Nat):Int),.int ((Z.stores.goods.length:Nat):Int),.int ((Z.aF.parties.length:Nat):Int)])) p3=some (.lst ([.int Z.way.hour,.int (CS.today Z.way)]++[.int ((Z.way.legs.length:Nat):Int),.int ((Z.stores.goods.length:Nat):Int),.int ((Z.aF.parties.length:Nat):Int)])):=aH;generalize upd H2 p3 (.lst ([.int Z.way.hour,.int (CS.today Z.way)]++[.int ((Z.way.legs.length:Nat):Int),.int ((Z.stores.goods.length:Nat):Int),.int ((Z.aF.parties.length:Nat):Int)]))=H3 at*;have s13:=(s1.trans s2).trans s3;refine ao (vs:=[.int ((W.past.length:Nat):Int),.int ((W.cW.length:Nat):Int)]) (aD (dR (eT (aJ (aA rfl) (s13 _ _ hy) T.dQ T.fH rfl) (SqL.of (s13 _ _ hY.pl))) (congrArg V.int l4)) (aD (dR (eT (aJ (aA rfl) (s13 _ _ hy) T.dQ T.fP rfl) (SqL.of (s13 _ _ hY.ul))) (congrArg V.int l5)) aL)) (by show 2≤1000;decide) fun p4 n4=>?_;have s4:aX H3 (upd H3 p4 (.lst [.int ((W.past.length:Nat):Int),.int ((W.cW.length:Nat):Int)])):=aX.upd n4;refine⟨p3,p4,_,_,rfl,rfl,s4 _ _ h3,aH,by show 5+2≤sizeLine;decide,fun p5 n5=>?_⟩;refine k _ p5 ((s13.trans s4).trans (aX.upd n5)) ((s13.trans s4).free n5) ?_;rw[aH];rfl
def M1(n:bL):Sp:=fun vs H Q _=>∃Y W c l ns,vs=[.ref Y.y,.int c,.ref l]∧gE n H Y W∧(∀Z,W.now=some Z→VOk Z)∧W.past.length≤1000∧W.cW.length≤1000∧H l=some (.lst (ns.map V.int))∧ns.length=CS.cQ c∧(∀x∈ns,0≤x)∧0≤c∧c≤32∧(c≠0→W.now≠none)∧wA n H Y (CS.cX W c ns) Q
theorem Q9(T:Txt K mg n):bK P w K mg aT CX0 9 n.zY n.BH ["voyage","call","numbers"] (M1 n):=by
 refine T.zS.ok R0 (fun vs H Q E h=>?_) (fun cdv A bF s H vs Q E hr h=>?_)
 ·obtain⟨_,_,_,_,_,rfl,_⟩:=h;rfl
 ·obtain⟨Y,W,c,l,ns,rfl,hY,hok,hz1,hz2,hl,har,hnn,hc0,hc1,hst,k⟩:=h;obtain⟨dy,hy⟩:=hY.obj;have at_:∀i:Nat,i < ns.length→atI (ns.map V.int) ((i:Nat):Int)=some (.int (ns.getD i 0)):=fun i h=>atN i h;unfold CS.cX at k;refine⟨_,(aE (bS (bE cY (pv 1) (aV rfl T.PF) (bD _)) (aK (aN (pcl (nk T) hr T.sr T.OZ (xi T) (aB (pv 0) (aB (cT bV (pv 2) aQ (fun _ _=>rfl)) (aB (cT bV (pv 2) aQ (fun _ _=>rfl)) (aB (cT bV (pv 2) aQ (fun _ _=>rfl)) (aB (cT bV (pv 2) aQ (fun _ _=>rfl)) (aB (cT bV (pv 2) aQ (fun _ _=>rfl)) (aB (cT bV (pv 2) aQ (fun _ _=>rfl)) (aB (cT bV (pv 2) aQ (fun _ _=>rfl)) (aB (cT bV (pv 2) aQ (fun _ _=>rfl)) aG)))))))))))) bG)
   (aE (bS (dW (pcl (jb T) hr T.kd T.IQ (md T) (aB (pv 1) aG))) (aK (aN (pcl (Z1 T) hr T.bj T.DL (gq T) (aB (pv 0) (aB (pv 1) (aB (pv 2) aG)))))) bG)
   (aE (bS (bE cY (pv 1) (aV rfl T.WT) (bD _)) (aK (aN (pcl (yd T) hr T.Ah T.UT (Az T) (aB (pv 0) aG)))) bG)
   (aE (bS (bE cY (pv 1) (aV rfl T.RV) (bD _)) (aK (aN (pcl (oo T) hr T.yf T.QM (xa T) (aB (pv 0) aG)))) bG)
   (aE (bS (bE cY (pv 1) (aV rfl T.NC) (bD _)) (aK (aN (pcl (mt T) hr T.uj T.QA (ua T) (aB (pv 0) aG)))) bG)
   (aK (aN (pcl (Gx T) hr T.m_tell T.fu (b_tell T) (aB (aI (pv 0) rfl) (aB (pv 1) (aB (pv 2) aG))))))))))),?_⟩
  refine cD (bB (cP (aA rfl) aO)) (fun e=>?_) (fun e=>?_)
  ·have ec:c=0:=of_decide_eq_true e;rw[if_pos ec] at k;have hn:ns.length=8:=by rw[har,ec];rfl
   exact cG (vs:=[.ref Y.y,.int (ns.getD 0 0),.int (ns.getD 1 0),.int (ns.getD 2 0),.int (ns.getD 3 0),.int (ns.getD 4 0),.int (ns.getD 5 0),.int (ns.getD 6 0),.int (ns.getD 7 0)]) (aD (aA rfl) (aD (cS (aA rfl) aO (SqL.of hl) (at_ 0 (by omega))) (aD (cS (aA rfl) aO (SqL.of hl) (at_ 1 (by omega))) (aD (cS (aA rfl) aO (SqL.of hl) (at_ 2 (by omega))) (aD (cS (aA rfl) aO (SqL.of hl) (at_ 3 (by omega))) (aD (cS (aA rfl) aO (SqL.of hl) (at_ 4 (by omega))) (aD (cS (aA rfl) aO (SqL.of hl) (at_ 5 (by omega))) (aD (cS (aA rfl) aO (SqL.of hl) (at_ 6 (by omega))) (aD (cS (aA rfl) aO (SqL.of hl) (at_ 7 (by omega))) aL))))))))) ⟨Y,W,_,_,_,_,_,_,_,_,rfl,hY,k⟩
  have nc0:¬c=0:=of_decide_eq_false e;rw[if_neg nc0] at k;have hsome:=hst nc0
  cases eZ:W.now with
  |none=>exact absurd eZ hsome
  |some Z=>
   rw[eZ] at k;dsimp only at k;have hokZ:=hok Z eZ;dsimp only[bT];refine cD (dX (bI (aD (aA rfl) aL) ⟨c,rfl,rfl⟩)) (fun e=>?_) (fun e=>?_)
   ·have eo:CS.cJ c 1 14=false:=by simpa using e
    rw[if_pos eo] at k;have hb:1≤c∧c≤14:=by
     unfold CS.cJ at eo;simp only[Bool.or_eq_false_iff,decide_eq_false_iff_not] at eo;omega
    exact cG (vs:=[.ref Y.y,.int c,.ref l]) (aD (aA rfl) (aD (aA rfl) (aD (aA rfl) aL))) ⟨Y,W,Z,c,l,ns,rfl,hY,eZ,hokZ,hz1,hl,har,hnn,hb.1,hb.2,k⟩
   have eo:CS.cJ c 1 14=true:=by simpa using e
   rw[if_neg (by rw[eo];decide)] at k;have hb:15≤c:=by
    unfold CS.cJ at eo;simp only[Bool.or_eq_true,decide_eq_true_eq] at eo;omega
   dsimp only[bT];refine cD (bB (cP (aA rfl) aO)) (fun e=>?_) (fun e=>?_)
   ·rw[if_pos (of_decide_eq_true e)] at k;exact cG (vs:=[.ref Y.y]) (aD (aA rfl) aL) ⟨Y,W,Z,rfl,hY,eZ,hz2,k⟩
   have n30:¬c=30:=of_decide_eq_false e;rw[if_neg n30] at k;dsimp only[bT];refine cD (bB (cP (aA rfl) aO)) (fun e=>?_) (fun e=>?_)
   ·rw[if_pos (of_decide_eq_true e)] at k;exact cG (vs:=[.ref Y.y]) (aD (aA rfl) aL) ⟨Y,W,Z,rfl,hY,eZ,hz1,k⟩
   have n31:¬c=31:=of_decide_eq_false e;rw[if_neg n31] at k;dsimp only[bT];refine cD (bB (cP (aA rfl) aO)) (fun e=>?_) (fun e=>?_)
   ·rw[if_pos (of_decide_eq_true e)] at k;exact cG (vs:=[.ref Y.y]) (aD (aA rfl) aL) ⟨Y,W,Z,rfl,hY,eZ,k.told hY⟩
   have n32:¬c=32:=of_decide_eq_false e;rw[if_neg n32] at k;dsimp only[bT];obtain⟨L,eL,hV⟩:=hY.ZC eZ;have hnow:r9 Y.now=.ref L.v:=by rw[eL];rfl
   exact cG (vs:=[.ref L.v,.int c,.ref l]) (aD (dR (aJ (aA rfl) hy T.dQ T.eF rfl) hnow) (aD (aA rfl) (aD (aA rfl) aL))) ⟨L,Z,c,l,ns,rfl,hV,hokZ,hl,har,hnn,hb,by omega,k.told hY⟩
end
def MB:Nat→CS.Voy→List Int→Prop
 |_,_,[]=>True
 |0,_,_::_=>False
 |f+1,Y,c::r=>0≤c∧c≤32∧CS.cQ c≤r.length∧(∀Z,Y.now=some Z→VOk Z)∧Y.past.length≤1000∧Y.cW.length≤1000∧(c≠0→Y.now≠none)∧(CS.cX Y c (r.take (CS.cQ c))).2.length≤100∧MB f (CS.cX Y c (r.take (CS.cQ c))).1 (r.drop (CS.cQ c))
theorem Fj{c:Int}(h0:0≤c)(h1:c≤32):atI (CS.ZD.map V.int) c=some (.int ((CS.cQ c:Nat):Int)):=by
 rw[qC (xs:=CS.ZD) h0 (by show c < 33;omega)];have hn:∀x∈CS.ZD,0≤x:=by decide
 have:=P8 hn c.toNat;unfold CS.cQ;congr 2;omega
theorem Hu{sp:Sp}{E:XK}{t:TA}{σ:L2.St}{H:Hp}{Q:VK}(h:t σ H fun vs H1=>sp (vs++[]) H1 Q E):jH sp [] E t σ H Q:=h
theorem Gr{K:PySem.W.Frag}{te tl th:TE}{σ:L2.St}{H:Hp}{Q:VK}{a:Addr}{xs:List V}{i j:Int}(he:EV te σ H (.ref a))(hl:EV tl σ H (.int i))(hh:EV th σ H (.int j))(hs:SqL K H a xs)(q:∀p,H p=none→Q (.ref p) (upd H p (.lst (UN xs (some i) (some j))))):tSl (rSlL K) te (uf tl) (uf th) σ H Q:=
 he _ (hl _ ⟨i,rfl,hh _ ⟨j,rfl,a,xs,rfl,hs,q⟩⟩)
theorem Fv(xs:List V)(i j:Nat)(h:j≤xs.length)(hij:i≤j):UN xs (some ((i:Nat):Int)) (some ((j:Nat):Int))=(xs.drop i).take (j - i):=by
 unfold UN;rw[HT.qp,HT.qp,show min i xs.length=i by omega,show min j xs.length=j by omega]
section
variable{P:Program}{w:World}{K:PySem.W.Frag}{mg:Str→Option Value}{aT:Heap}{n:bL}
theorem Ee{σ:L2.St}{H:Hp}{D:lB}{ta to:TE}{l b:Addr}{xs zs:List V}(ho:EV to σ H (.ref l))(hl:H l=some (.lst xs))(ha:EV ta σ H (.ref b))(hb:H b=some (.lst zs))(hz:xs.length+zs.length≤sizeLine)(q:D.nx σ (upd H l (.lst (xs++zs)))):BZ (tBM K "list" qu to (dD ta eU)) D σ H:=
 ho _ ⟨.inl ⟨rfl,xs,SqL.of hl⟩,ha _ ⟨l,b,xs,zs,rfl,rfl,hl,hb,hz,q⟩⟩
theorem gE.off{H H':Hp}{Y:eI}{W:CS.Voy}{l:Addr}(h:gE n H Y W)(c:Chg [l] H H')(h1:l∉Y.own)(h2:∀L∈Y.eN,l∉L.all):gE n H' Y W:=by
 have s1:∀L∈Y.now.toList,L∈Y.eN:=fun L q=>List.mem_append_left _ q;have s2:∀L∈Y.past,L∈Y.eN:=fun L q=>List.mem_append_right _ (List.mem_append_left _ q);have s3:∀L∈Y.cW,L∈Y.eN:=fun L q=>List.mem_append_right _ (List.mem_append_right _ q);have aw:∀L∈Y.eN,∀q∈[l],q∉L.all:=fun L hL q hq=>by rw[List.mem_singleton.mp hq];exact h2 L hL
 unfold eI.own at h1;simp only[List.mem_cons,List.not_mem_nil,or_false,not_or] at h1;exact⟨h.obj.chg c (.inl (by simpa using Ne.symm h1.1)),c.keep _ _ h.pl (.inl (by simpa using Ne.symm h1.2.1)),c.keep _ _ h.ul (.inl (by simpa using Ne.symm h1.2.2)),h.ne,h.now.CT fun L hL Z q=>q.away c (aw L (s1 L hL)),h.past.CT fun L hL Z q=>q.away c (aw L (s2 L hL)),h.und.CT fun L hL Z q=>q.away c (aw L (s3 L hL)),h.apart⟩
def D6(K:PySem.W.Frag):Sp:=fun vs H Q _=>∃a cs,vs=[.ref a]∧SqL K H a (cs.map V.int)∧cs.length≤30000∧(∀x∈cs,0≤x)∧MB cs.length ⟨none,[],[]⟩ cs∧∀(H':Hp) (p:Addr),H' p=some (.lst ((CS.oG cs.length ⟨none,[],[]⟩ cs).map V.int))→Q (.ref p) H'
theorem uo(T:Txt K mg n):bK P w K mg aT CX0 10 n.UY n.U1 ["calls"] (D6 K):=by
 refine T.Ad.ok mT (fun vs H Q E h=>?_) (fun cdv A bF s H vs Q E hr h=>?_)
 ·obtain⟨_,_,rfl,_⟩:=h;rfl
 ·obtain⟨a,cs,rfl,hS,hz,hnn,hok,k⟩:=h;refine⟨_,(aE (pst (i:=1) mT.nd (Eu T.Aw (O2 T) (hr.cF (by decide)) rfl T.Fe (X9 T) .nil gK))
   (aE (pst (i:=2) mT.nd (bJ aG))
   (aE (pst (i:=3) mT.nd aQ)
   (aE (Et PassesOwn.never (bE tL (pv 3) (bW cM (by rfl) T.eE PySem.boot_len (aB (pv 0) aG)) (bD _)) (aE (pst (i:=4) mT.nd (cT bV (pv 0) (pv 3) (fun _ _=>rfl)))
   (aE (pst (i:=5) mT.nd (dG gJ (dG gJ (pv 3) aQ) (cT ix_tup (qh (v:=.ref n.tS) rfl T.z5 rfl) (pv 4) (fun _ _=>rfl))))
   (aE (pst (i:=6) mT.nd (pcl (Q9 T) hr T.Z3 T.zS (X8 T) (aB (pv 1) (aB (pv 4) (aB (Fh Hy (pv 0) (ql (dG gJ (pv 3) aQ)) (ql (pv 5))) aG)))))
   (aE (eQ (nX PySem.F.plainAttrs_list PySem.F.slot_list_append PySem.F.type_list_append iQ (pv 2) (aB (bW cM (by rfl) T.eE PySem.boot_len (aB (pv 6) aG)) aG)))
   (aE (eQ (nX PySem.F.plainAttrs_list PySem.F.slot_list_extend PySem.F.type_list_extend yz (pv 2) (aB (pv 6) aG)))
   (aK (pst (i:=3) mT.nd (pv 5)))))))))
   (aK (aN (pv 2))))))),?_⟩
  generalize hT:CS.oG cs.length ⟨none,[],[]⟩ cs=target at k;refine gR (ZP (vs:=[]) aL fun y dy ny ndy hne=>⟨y,dy,rfl,aH,fun H1 lp lu nlp nlu hY1 keep1=>⟨rfl,?_⟩⟩);dsimp only[dB];have s1:aX H H1:=aX.made ny ndy keep1;obtain⟨nlp1,_⟩:=sK nlp;obtain⟨nlu1,_⟩:=sK nlu;refine gR (ao (vs:=[]) aL (by show 0≤1000;decide) fun lo nlo=>?_);dsimp only[dB];have s2:aX H (upd H1 lo (.lst [])):=s1.trans (aX.upd nlo);have hlo0:upd H1 lo (.lst []) lo=some (.lst []):=aH;have hY2:gE n (upd H1 lo (.lst [])) ⟨y,lp,lu,none,[],[]⟩ ⟨none,[],[]⟩:=hY1.same (aX.upd nlo);have nloY:lo∉eI.own ⟨y,lp,lu,none,[],[]⟩:=fun q=>by
   unfold eI.own at q;simp only[List.mem_cons,List.not_mem_nil,or_false] at q;obtain⟨d1,e1⟩:=hY1.obj
   rcases q with rfl |rfl |rfl
   ·rw[e1] at nlo;cases nlo
   ·rw[hY1.pl] at nlo;cases nlo
   ·rw[hY1.ul] at nlo;cases nlo
  have nlo0:H lo=none:=s1.free nlo;generalize upd H1 lo (.lst [])=H2 at*;refine cI aO ?_;dsimp only;refine⟨fun m σ H'=>∃(i:Nat) (v4 v5 v6:Option V) (Y:eI) (W:CS.Voy) (out:List Int) (f:Nat),m=cs.length - i∧i≤cs.length∧σ=[some (.ref a),some (.ref Y.y),some (.ref lo),some (.int (i:Nat)),v4,v5,v6]∧aX H H'∧gE n H' Y W∧(∀q∈Y.own,H q=none)∧lo∉Y.own∧(∀L∈Y.eN,lo∉L.all)∧H' lo=some (.lst (out.map V.int))∧out.length≤101*i∧MB f W (cs.drop i)∧out++CS.oG f W (cs.drop i)=target,?_,?_⟩
  ·refine⟨cs.length,0,_,_,_,⟨y,lp,lu,none,[],[]⟩,⟨none,[],[]⟩,[],cs.length,rfl,Nat.zero_le _,rfl,s2,hY2,fun q hq=>?_,nloY,fun L hL=>absurd hL (by simp[eI.eN]),hlo0,Nat.zero_le _,hok,hT⟩;unfold eI.own at hq;simp only[List.mem_cons,List.not_mem_nil,or_false] at hq
   rcases hq with rfl |rfl |rfl
   ·exact ny
   ·exact nlp1
   ·exact nlu1
  ·rintro m σ H' ⟨i,v4,v5,v6,Y,W,out,f,rfl,hi,rfl,sm,hY,hnew,hlo,hshl,hout,hol,hfl,htar⟩;have hS':SqL K H' a (cs.map V.int):=sm.seq hS;refine(bB (bU (aA rfl) (eT (aA rfl) hS'))) _ ?_;dsimp only
   by_cases hlt:i < cs.length
   ·rw[if_pos (decide_eq_true (by rw[List.length_map];omega))];refine⟨fun σ' H''=>∃(j:Nat) (v4 v5 v6:Option V) (Y:eI) (W:CS.Voy) (out:List Int) (f:Nat),i < j∧j≤cs.length∧σ'=[some (.ref a),some (.ref Y.y),some (.ref lo),some (.int (j:Nat)),v4,v5,v6]∧aX H H''∧gE n H'' Y W∧(∀q∈Y.own,H q=none)∧lo∉Y.own∧(∀L∈Y.eN,lo∉L.all)∧H'' lo=some (.lst (out.map V.int))∧out.length≤101*j∧MB f W (cs.drop j)∧out++CS.oG f W (cs.drop j)=target,?_,?_⟩
    ·rintro σ' H'' ⟨j,v4,v5,v6,Y,W,out,f,hij,hj,rest⟩;exact⟨cs.length - j,by omega,j,v4,v5,v6,Y,W,out,f,rfl,hj,rest⟩
    have hdrop:cs.drop i=cs[i]::cs.drop (i+1):=List.drop_eq_getElem_cons hlt;have hget:cs[i]? =some cs[i]:=List.getElem?_eq_getElem hlt;rw[hdrop] at hfl htar;generalize cs[i]=c at*
    cases f with
    |zero=>exact absurd hfl (by intro z;exact z)
    |succ f=>
     obtain⟨hc0,hc1,hlen,hvok,hp1,hp2,hst,hsm,hfl'⟩:=hfl;have hrl:(cs.drop (i+1)).length=cs.length - (i+1):=List.length_drop;have hjl:i+1+CS.cQ c≤cs.length:=by omega
     have hdd:(cs.drop (i+1)).drop (CS.cQ c)=cs.drop (i+1+CS.cQ c):=by rw[List.drop_drop]
     have htar':out++((((CS.cX W c ((cs.drop (i+1)).take (CS.cQ c))).2.length:Nat):Int)::((CS.cX W c ((cs.drop (i+1)).take (CS.cQ c))).2++CS.oG f (CS.cX W c ((cs.drop (i+1)).take (CS.cQ c))).1 ((cs.drop (i+1)).drop (CS.cQ c))))=target:=htar;rw[hdd] at hfl' htar';refine cI (v:=.int c) (cS (aA rfl) (aA rfl) hS' (oJ (by rw[List.getElem?_map,hget];rfl))) ?_;dsimp only;refine cI (v:=.int (((i:Nat):Int)+1+((CS.cQ c:Nat):Int))) (bU (bU (aA rfl) aO) (ev_ixt aO (aA rfl) (T.A4 H') (Fj hc0 hc1))) ?_;dsimp only;refine gR (Hu (uK (UX (v:=.ref Y.y) rfl (uK (UX (v:=.int c) rfl (uK (Gr (i:=((i:Nat):Int)+1) (j:=((i:Nat):Int)+1+((CS.cQ c:Nat):Int)) (aA rfl) (bU (aA rfl) aO) (aA rfl) hS' fun p np=>?_)))))));have ecut:UN (cs.map V.int) (some (((i:Nat):Int)+1)) (some (((i:Nat):Int)+1+((CS.cQ c:Nat):Int)))=((cs.drop (i+1)).take (CS.cQ c)).map V.int:=by
      have e1:((i:Nat):Int)+1=((i+1:Nat):Int):=by push_cast;rfl
      have e2:((i:Nat):Int)+1+((CS.cQ c:Nat):Int)=((i+1+CS.cQ c:Nat):Int):=by push_cast;rfl
      rw[e2,e1,Fv _ _ _ (by rw[List.length_map];exact hjl) (by omega),List.map_take,List.map_drop];congr 1;omega
     rw[ecut];have s3:aX H' (upd H' p (.lst (((cs.drop (i+1)).take (CS.cQ c)).map V.int))):=aX.upd np;have hp:upd H' p (.lst (((cs.drop (i+1)).take (CS.cQ c)).map V.int)) p=some (.lst (((cs.drop (i+1)).take (CS.cQ c)).map V.int)):=aH;generalize upd H' p (.lst (((cs.drop (i+1)).take (CS.cQ c)).map V.int))=H3 at*;have hnsl:((cs.drop (i+1)).take (CS.cQ c)).length=CS.cQ c:=by rw[List.length_take,hrl];omega
     have hnsn:∀x∈(cs.drop (i+1)).take (CS.cQ c),0≤x:=fun x hx=>hnn x (List.mem_of_mem_drop (List.mem_of_mem_take hx));generalize (cs.drop (i+1)).take (CS.cQ c)=ns at*;refine⟨Y,W,c,p,ns,rfl,hY.same s3,hvok,hp1,hp2,hp,hnsl,hnsn,hc0,hc1,hst,fun H4 Y4 r hy4 hY4 hr4 c4 hlp4 hlu4 nr hsh4=>?_⟩;generalize CS.cX W c ns=x at*;dsimp only[dB];have hlo3:=s3 _ _ hout;have hlo4:H4 lo=some (.lst (out.map V.int)):=c4.keep _ _ hlo3 (.inl hlo);have s4:aX H H4:=aX.chg (sm.trans s3) c4 hnew;have hrlo:r≠lo:=fun q=>by rw[q,hlo3] at nr;cases nr
     have hnew4:∀q∈Y4.own,H q=none:=fun q hq=>by
      unfold eI.own at hq hnew;simp only[List.mem_cons,List.not_mem_nil,or_false] at hq hnew
      rcases hq with rfl |rfl |rfl
      ·rw[hy4];exact hnew _ (.inl rfl)
      ·rcases hlp4 with e |e
       ·rw[e];exact hnew _ (.inr (.inl rfl))
       ·exact(sm.trans s3).free e
      ·rcases hlu4 with e |e
       ·rw[e];exact hnew _ (.inr (.inr rfl))
       ·exact(sm.trans s3).free e
     have hlo5:lo∉Y4.own:=fun hq=>by
      unfold eI.own at hq hlo;simp only[List.mem_cons,List.not_mem_nil,or_false,not_or] at hq hlo
      rcases hq with e |e |e
      ·rw[hy4] at e;exact hlo.1 e
      ·rcases hlp4 with q |q
       ·rw[q] at e;exact hlo.2.1 e
       ·rw[←e,hlo3] at q;cases q
      ·rcases hlu4 with q |q
       ·rw[q] at e;exact hlo.2.2 e
       ·rw[←e,hlo3] at q;cases q
     have hsz:out.length+101≤4000000:=by omega
     refine xR (y:=.int ((x.2.length:Nat):Int)) (aA rfl) hlo4 (dR (eT (aA rfl) (SqL.of hr4)) (by rw[List.length_map])) (by rw[List.length_map];show out.length < 2 ^ 24;omega) ?_;have c5:Chg [lo] H4 (upd H4 lo (.lst (out.map V.int++[.int ((x.2.length:Nat):Int)]))):=Chg.upd (by simp) hlo4 rfl;have hr5:upd H4 lo (.lst (out.map V.int++[.int ((x.2.length:Nat):Int)])) r=some (.lst (x.2.map V.int)):=aZ hrlo hr4;dsimp only;refine Ee (aA rfl) aH (aA rfl) hr5 (by rw[List.length_append,List.length_map,List.length_map];show out.length+1+x.2.length≤2 ^ 24;omega) ?_;rw[cO];have e6:out.map V.int++[.int ((x.2.length:Nat):Int)]++x.2.map V.int=(out++(((x.2.length:Nat):Int)::x.2)).map V.int:=by
      rw[List.map_append,List.append_assoc];rfl
     rw[e6];have c6:Chg [lo] H4 (upd H4 lo (.lst ((out++(((x.2.length:Nat):Int)::x.2)).map V.int))):=Chg.upd (by simp) hlo4 rfl;have s6:aX H (upd H4 lo (.lst ((out++(((x.2.length:Nat):Int)::x.2)).map V.int))):=aX.chg s4 c6 fun q hq=>by rw[List.mem_singleton.mp hq];exact nlo0
     have hshl4:∀L∈Y4.eN,lo∉L.all:=fun L hL z=>by
      rcases hsh4 L hL with q |q
      ·exact hshl L q z
      ·have:=q lo z;rw[hlo3] at this;cases this
     have hY6:gE n (upd H4 lo (.lst ((out++(((x.2.length:Nat):Int)::x.2)).map V.int))) Y4 x.1:=hY4.off c6 (by simpa using hlo5) (by simpa using hshl4);dsimp only;refine cI (aA rfl) ?_;refine⟨i+1+CS.cQ c,some (.int c),some (.int (((i:Nat):Int)+1+((CS.cQ c:Nat):Int))),some (.ref r),Y4,x.1,out++(((x.2.length:Nat):Int)::x.2),f,by omega,hjl,?_,s6,hY6,hnew4,hlo5,hshl4,aH,?_,hfl',?_⟩
     ·show [_,_,_,some (V.int (((i:Nat):Int)+1+((CS.cQ c:Nat):Int))),_,_,_]=_;rw[hy4,show((i+1+CS.cQ c:Nat):Int)=((i:Nat):Int)+1+((CS.cQ c:Nat):Int) by push_cast;rfl]
     ·rw[List.length_append,List.length_cons];omega
     ·rw[List.append_assoc];exact htar'
   ·rw[if_neg (by rw[decide_eq_false (by rw[List.length_map];omega)];decide)];have hd:cs.drop i=[]:=List.drop_eq_nil_of_le (by omega);rw[hd] at htar;have e0:CS.oG f W []=[]:=by cases f <;> rfl
    rw[e0,List.append_nil] at htar;refine dO (aA rfl) (k H' lo ?_);rw[hout,htar]
end
end CSP
namespace CSP
open CS Km443
theorem vok_of{V:aU}{m:Machine}(h:Sim V m):VOk V:=by
 have w:=h.w;have p:=h.p;obtain⟨n1,n2,n3⟩:=ZJ w;have hl60:=w.tE;have hend:=w.end_;have htd:CS.today V.way=((m.stores.today:Nat):Int):=by
  unfold CS.today;rw[w.hour,w.today];omega
 have ht:m.stores.today≤61:=by rw[w.today];omega
 have hpl:=p.CP;have hper:=p.QR;refine⟨?_,⟨?_,?_,fun q hq=>?_,fun x hx=>?_,?_⟩,fun q hq=>?_,?_,fun G hG=>?_,?_,?_⟩
 ·rw[w.legs,List.length_map];have:=w.HB;omega
 ·rw[p.CO,hpl]
 ·rw[p.bR,List.length_map,List.length_range,hpl]
 ·obtain⟨i,hi⟩:=List.getElem?_of_mem hq;have hil:i < m.cabins.parties.length:=by rw[←p.kR];exact(List.getElem?_eq_some_iff.mp hi).1
  obtain⟨a1,a2,a3,a4,f,b1,b2,b3,b4,b5,b6⟩:=p.parties i q _ hi (List.getElem?_eq_getElem hil);rw[b1,hpl];omega
 ·rw[p.persons] at hx;obtain⟨j,hj,rfl⟩:=List.mem_map.mp hx;have:=p.DP j (List.mem_range.mp hj);rw[p.kR];show(0:Int)≤((m.party.getD j 0:Nat):Int)∧((m.party.getD j 0:Nat):Int) < _;omega
 ·rw[hpl,p.kR,p.cabins,List.length_map];have h1:=p.BW;have h2:=p.DC;exact⟨by omega,by omega,by omega⟩
 ·obtain⟨i,hi⟩:=List.getElem?_of_mem hq;have hil:i < m.cabins.parties.length:=by rw[←p.kR];exact(List.getElem?_eq_some_iff.mp hi).1
  obtain⟨a1,a2,a3,a4,f,b1,b2,b3,b4,b5,b6⟩:=p.parties i q _ hi (List.getElem?_eq_getElem hil);rw[b1,a1,hpl];omega
 ·rw[w.goods,List.length_map];have:=w.rQ;omega
 ·rw[w.goods] at hG;obtain⟨g,hg,rfl⟩:=List.mem_map.mp hG;have:=(w.lots g hg).few;show(g.lots.map iO).length≤900;rw[List.length_map];omega
 ·rw[htd];omega
 ·rw[n1];omega
theorem lb{n:Nat}(h:Nat.ble n 100=true):n≤100:=Nat.le_of_ble_eq_true h
theorem cV{p:Prop}[Decidable p]{a b:aU×List Int}(h1:a.2.length≤100)(h2:b.2.length≤100):(if p then a else b).2.length≤100:=by
 by_cases c:p
 ·rw[if_pos c];exact h1
 ·rw[if_neg c];exact h2
theorem gL{p:Prop}[Decidable p]{a b:List Int}(h1:a.length≤100)(h2:b.length≤100):(if p then a else b).length≤100:=by
 by_cases c:p
 ·rw[if_pos c];exact h1
 ·rw[if_neg c];exact h2
theorem yH{p:Prop}[Decidable p]{a b:Voy×List Int}(h1:a.2.length≤100)(h2:b.2.length≤100):(if p then a else b).2.length≤100:=by
 by_cases c:p
 ·rw[if_pos c];exact h1
 ·rw[if_neg c];exact h2
theorem Cb(V:aU)(a b c:Int):(CS.CG V a b c).2.length≤100:=by
 unfold CS.CG;refine cV (lb rfl) ?_;refine cV (lb rfl) ?_;refine cV (lb rfl) ?_;refine cV (lb rfl) ?_;exact lb rfl
theorem wj(V:aU)(a b:Int):(CS.wE V a b).2.length≤100:=by
 unfold CS.wE;refine cV (lb rfl) ?_;refine cV (lb rfl) ?_;exact lb rfl
theorem ou(V:aU)(a b c d e:Int):(CS.sE V a b c d e).2.length≤100:=by
 unfold CS.sE;refine cV (lb rfl) ?_;refine cV (lb rfl) ?_;refine cV (lb rfl) ?_;exact lb rfl
theorem lq(V:aU)(a b c d:Int):(CS.sO V a b c d).2.length≤100:=by
 unfold CS.sO;refine cV (lb rfl) ?_;refine cV (lb rfl) ?_;refine cV (lb rfl) ?_;refine cV (lb rfl) ?_
 split <;> exact lb rfl
theorem kx(V:aU)(a:Int):(CS.sL V a).2.length≤100:=by
 unfold CS.sL;refine cV (lb rfl) ?_;refine cV (lb rfl) ?_;exact lb rfl
theorem we(V:aU)(a:Int):(CS.vG V a).2.length≤100:=by
 unfold CS.vG;refine cV (lb rfl) ?_;refine cV (lb rfl) ?_;refine cV (lb rfl) ?_;exact lb rfl
theorem yo(V:aU)(a:Int):(CS.tD V a).2.length≤100:=by
 unfold CS.tD;refine cV (lb rfl) (cV (lb rfl) (cV (lb rfl) (cV (cV (lb rfl) (lb rfl)) (cV (lb rfl) (lb rfl)))))
theorem tx(V:aU)(a b:Int):(CS.wI V a b).2.length≤100:=by
 unfold CS.wI;refine cV (lb rfl) ?_;refine cV (lb rfl) ?_;refine cV (lb rfl) ?_;refine cV (lb rfl) ?_;refine cV (lb rfl) ?_;exact lb rfl
theorem gb(V:aU)(a:Int):(CS.pH V a).2.length≤100:=by
 unfold CS.pH;refine cV (lb rfl) ?_;refine cV (lb rfl) ?_;refine cV (lb rfl) ?_;refine cV (lb rfl) ?_;exact lb rfl
theorem jl(V:aU)(a b:Int):(CS.pP V a b).2.length≤100:=by
 unfold CS.pP;refine cV (lb rfl) ?_;refine cV (lb rfl) ?_;refine cV (lb rfl) ?_;exact lb rfl
theorem Bo(V:aU)(a b c:Int):(CS.CB V a b c).2.length≤100:=by
 unfold CS.CB;refine cV (lb rfl) ?_;refine cV (lb rfl) ?_;exact lb rfl
theorem pp(V:aU):(CS.sB V).2.length≤100:=by
 unfold CS.sB;refine cV (lb rfl) ?_;exact lb rfl
theorem Ed(V:aU)(a:Int):(CS.QZ V a).2.length≤100:=by
 unfold CS.QZ;refine cV (lb rfl) ?_;refine cV (lb rfl) ?_;refine cV (lb rfl) ?_;refine cV (lb rfl) ?_;exact lb rfl
theorem kh(V:aU)(a:Int):(CS.kO V a).2.length≤100:=by
 unfold CS.kO;refine cV (lb rfl) ?_;refine cV (lb rfl) ?_;exact lb rfl
theorem B8(V:aU)(c:Int)(l:List Int):(CS.nR V c l).2.length≤100:=by
 unfold CS.nR;exact(cV (Cb V _ _ _) (cV (wj V _ _) (cV (ou V _ _ _ _ _) (cV (lq V _ _ _ _) (cV (kx V _) (cV (we V _) (cV (yo V _) (cV (tx V _ _) (cV (gb V _) (cV (jl V _ _) (cV (Bo V _ _ _) (cV (pp V) (cV (Ed V _) (kh V _))))))))))))))
theorem lz(V:aU):(CS.CM V).length≤100:=by
 unfold CS.CM;exact lb rfl
theorem oz(V:aU):(CS.CL V).length≤100:=by
 unfold CS.CL;exact lb rfl
theorem gj(V:aU):(CS.xZ V).length≤100:=by
 unfold CS.xZ;exact lb rfl
theorem Z2(V:aU):(CS.vA V).length≤100:=by
 unfold CS.vA;exact lb rfl
theorem bu(V:aU):(CS.tZ V).length≤100:=by
 unfold CS.tZ;refine gL (lb rfl) ?_;exact lb rfl
theorem Cv(V:aU)(a:Int):(CS.NK V a).length≤100:=by
 unfold CS.NK;refine gL (lb rfl) ?_;exact lb rfl
theorem li(V:aU)(a:Int):(CS.xI V a).length≤100:=by
 unfold CS.xI;refine gL (lb rfl) ?_;exact lb rfl
theorem be(V:aU):(CS.yE V).length≤100:=by
 unfold CS.yE;exact lb rfl
theorem lx(V:aU)(a:Int):(CS.xM V a).length≤100:=by
 unfold CS.xM;refine gL (lb rfl) ?_;refine gL (lb rfl) ?_;exact lb rfl
theorem lw(V:aU):(CS.CQ V).length≤100:=by
 unfold CS.CQ;exact lb rfl
theorem px(V:aU)(a:Int):(CS.xX V a).length≤100:=by
 unfold CS.xX;refine gL (lb rfl) ?_;exact lb rfl
theorem lj(V:aU):(CS.CU V).length≤100:=by
 unfold CS.CU;exact lb rfl
theorem mn(V:aU):(CS.xO V).length≤100:=by
 unfold CS.xO;exact lb rfl
theorem mh(V:aU)(a:Int):(CS.xV V a).length≤100:=by
 unfold CS.xV;refine gL (lb rfl) ?_;exact lb rfl
theorem sw(V:aU):(CS.LY V).length≤100:=by
 unfold CS.LY;exact lb rfl
theorem Dy(V:aU)(c:Int)(l:List Int):(CS.FA V c l).length≤100:=by
 unfold CS.FA;exact(gL (lz V) (gL (oz V) (gL (gj V) (gL (Z2 V) (gL (bu V) (gL (Cv V _) (gL (li V _) (gL (be V) (gL (lx V _) (gL (lw V) (gL (px V _) (gL (lj V) (gL (mn V) (gL (mh V _) (sw V)))))))))))))))
theorem yb(Y:Voy)(c:Int)(l:List Int):(CS.cX Y c l).2.length≤100:=by
 unfold CS.cX;refine yH ?_ ?_
 ·unfold CS.qJ;exact yH (lb rfl) (lb rfl)
 ·split
  ·exact Nat.zero_le _
  ·refine yH ?_ (yH ?_ (yH ?_ (yH ?_ ?_)))
   ·unfold CS.rH;exact yH (B8 _ _ _) (B8 _ _ _)
   ·unfold CS.DH
    split
    ·exact lb rfl
    ·exact lb rfl
   ·unfold CS.yN
    split
    ·exact lb rfl
    ·exact lb rfl
   ·unfold CS.yD;exact lb rfl
   ·exact Dy _ _ _
theorem Cy:∀(f:Nat) (l:List Int) (raw:List (List (List Int))) (Y:Voy) (S:Option Desk),PyFlat.calls PyKm443.shape f l=some raw→YRel Y S→(∀x∈l,0≤x)→Km443Neutral.may S (raw.map PyKm443.whole)=true→
  MB f Y l∧PyFlat.told (PyFlat.played Km443Neutral.step S (raw.map PyKm443.whole))=CS.oG f Y l
 |f,[],raw,Y,S,h,hY,hn,hm=>by
  have e:PyFlat.calls PyKm443.shape f []=some []:=by cases f <;> rfl
  rw[e] at h;have hr:=Option.some.inj h;subst hr;refine⟨by cases f <;> trivial,?_⟩;have e2:CS.oG f Y []=[]:=by cases f <;> rfl
  rw[e2];rfl
 |f,p::r,raw,Y,S,h,hY,hn,hm=>by
  obtain⟨g,cs,rfl,h0,h1,hl,hcs,rfl⟩:=yw h;have hnn:∀x∈r,0≤x:=fun x hx=>hn x (List.mem_cons_of_mem _ hx);have hns:(r.take (CS.cQ p)).length=CS.cQ p:=by rw[List.length_take];omega
  have hnt:∀x∈r.take (CS.cQ p),0≤x:=fun x hx=>hnn x (List.mem_of_mem_take hx);have hnd:∀x∈r.drop (CS.cQ p),0≤x:=fun x hx=>hnn x (List.mem_of_mem_drop hx);rw[List.map_cons,Dr h0 h1 hns hnt] at hm ⊢;have hm':(!((Km443Neutral.step S [p::r.take (CS.cQ p)]).2.isEmpty)&&Km443Neutral.may (Km443Neutral.step S [p::r.take (CS.cQ p)]).1 (cs.map PyKm443.whole))=true:=hm;rw[Bool.and_eq_true,Bool.not_eq_true'] at hm';have key:(Km443Neutral.step S [p::r.take (CS.cQ p)]).2=(CS.cX Y p (r.take (CS.cQ p))).2∧YRel (CS.cX Y p (r.take (CS.cQ p))).1 (Km443Neutral.step S [p::r.take (CS.cQ p)]).1∧(p≠0→Y.now≠none)∧(∀Z,Y.now=some Z→VOk Z)∧Y.past.length≤1000∧Y.cW.length≤1000:=by
   cases S with
   |none=>
    have eY:Y=⟨none,[],[]⟩:=hY;subst eY;obtain⟨a,b,c⟩:=zx h0 h1 hns hnt hm'.1;exact⟨b,c,fun q=>absurd a q,(fun Z e=>by cases e),Nat.zero_le _,Nat.zero_le _⟩
   |some D=>
    have hV:pZ Y D:=hY;obtain⟨b,c⟩:=Ft hV h0 h1 hns hnt;obtain⟨V,hv,hs⟩:=hV.now;have hf:=hV.few;refine⟨b,c,fun _=>by rw[hv];simp,fun Z e=>?_,by omega,by omega⟩;rw[hv] at e;have e':=Option.some.inj e;subst e';exact vok_of hs
  obtain⟨k1,k2,k3,k4,k5,k6⟩:=key;obtain⟨i1,i2⟩:=Cy g (r.drop (CS.cQ p)) cs (CS.cX Y p (r.take (CS.cQ p))).1 _ hcs k2 hnd hm'.2;refine⟨⟨h0,h1,hl,k4,k5,k6,k3,yb _ _ _,i1⟩,?_⟩;show PyFlat.told ((Km443Neutral.step S [p::r.take (CS.cQ p)]).2::PyFlat.played Km443Neutral.step (Km443Neutral.step S [p::r.take (CS.cQ p)]).1 (cs.map PyKm443.whole))=(((CS.cX Y p (r.take (CS.cQ p))).2.length:Nat):Int)::((CS.cX Y p (r.take (CS.cQ p))).2++CS.oG g (CS.cX Y p (r.take (CS.cQ p))).1 (r.drop (CS.cQ p)));rw[←i2,k1];rfl
 termination_by f l=>l.length
 decreasing_by
  rw[List.length_cons,List.length_drop];omega
theorem sk{l:List Int}(hn:∀x∈l,0≤x)(ha:PyKm443.answers_asked l=true):MB l.length ⟨none,[],[]⟩ l∧PyKm443.answers l=CS.oG l.length ⟨none,[],[]⟩ l:=by
 unfold PyKm443.answers_asked at ha
 cases e:PyFlat.calls PyKm443.shape l.length l with
 |none=>rw[e] at ha;cases ha
 |some raw=>
  rw[e] at ha;simp only[Bool.and_eq_true] at ha;have hask:Km443Neutral.asked (raw.map PyKm443.whole)=true:=ha.1.2;have hm:Km443Neutral.may Km443Neutral.start (raw.map PyKm443.whole)=true:=by
   unfold Km443Neutral.asked at hask;simp only[Bool.and_eq_true] at hask;exact hask.2.2.2
  obtain⟨a,b⟩:=Cy l.length l raw ⟨none,[],[]⟩ none e rfl hn hm;refine⟨a,?_⟩;rw[←b];unfold PyKm443.answers PyKm443.calls;rw[e];rfl
end CSP
namespace CSP
open PySem PySem.Spec PyProof.Rows L2
section
variable{K:PySem.W.Frag}{mg:Str→Option Value}{h:Heap}
theorem qB(X:K.In h)(G:h.Ns mainGlobals mg){x qual:Str}{st:Stmt}{C f:Addr}{od an:Option Addr}{sl:Array (Option Value)}{oc kV dc pm cd ct:Value}
  (aC:PySem.W.nsIn K mainGlobals x=some (some (.ref C)):=by k_is) (pg:PySem.W.plainGet K C Str.empty=true:=by k_is) (hd:PySem.W.hasDictIn K C=true:=by k_is) (po:PySem.W.plainOver K C=true:=by k_is) (sa:PySem.W.findIn K (.ref C) "__setattr__"=some (some (.builtin "object.__setattr__")):=by k_is) (mk:PySem.W.makesIn K C=true:=by k_is) (kc:PySem.W.keepIn K (.ref C)=true:=by k_is)
  (a:PySem.W.findIn K (.ref C) "__init__"=some (some (.ref f)):=by k_is) (i:PySem.W.isFn K (.ref f)=true:=by k_is) (l:K.lookup f=some ⟨oc,od,.func (PySem.W.fnOf "__init__" qual (oO st) (mN st) (aR st) .none kV dc pm an cd ct),sl⟩:=by k_is) (c:PySem.W.codeIn K cd qual=true:=by k_is) (k:PySem.W.keepIn K (.ref f)=true:=by k_is):
  mg x=some (.ref C)∧Cls K C∧Mk K C f∧Fun K "__init__" qual st f (PySem.W.fnOf "__init__" qual (oO st) (mN st) (aR st) .none kV dc pm an cd ct):=
 ⟨PySem.W.mg_of X G aC,⟨pg,hd,po,sa⟩,⟨mk,a,i,kc⟩,cq l c k⟩
theorem dH{C f:Addr}(M:Mk K C f){x:Str}(e:PySem.W.findIn K (.ref C) x=some none:=by k_is):bY K C x:=e
theorem YY{C f0:Addr}(M:Mk K C f0){x qual:Str}{st:Stmt}{f:Addr}{od an:Option Addr}{sl:Array (Option Value)}{oc kV dc pm cd ct:Value}
  (a:PySem.W.findIn K (.ref C) x=some (some (.ref f)):=by k_is) (i:PySem.W.isFn K (.ref f)=true:=by k_is) (l:K.lookup f=some ⟨oc,od,.func (PySem.W.fnOf x qual (oO st) (mN st) (aR st) .none kV dc pm an cd ct),sl⟩:=by k_is) (c:PySem.W.codeIn K cd qual=true:=by k_is) (k:PySem.W.keepIn K (.ref f)=true:=by k_is):
  JL K C x f∧Fun K x qual st f (PySem.W.fnOf x qual (oO st) (mN st) (aR st) .none kV dc pm an cd ct):=⟨⟨a,i,k⟩,cq l c k⟩
theorem bX(X:K.In h)(G:h.Ns mainGlobals mg){x:Str}{st:Stmt}{f:Addr}{od an:Option Addr}{sl:Array (Option Value)}{oc kV dc pm cd ct:Value}
  (a:PySem.W.nsIn K mainGlobals x=some (some (.ref f)):=by k_is) (l:K.lookup f=some ⟨oc,od,.func (PySem.W.fnOf x x (oO st) (mN st) (aR st) .none kV dc pm an cd ct),sl⟩:=by k_is) (c:PySem.W.codeIn K cd x=true:=by k_is) (k:PySem.W.keepIn K (.ref f)=true:=by k_is):
  mg x=some (.ref f)∧Fun K x x st f (PySem.W.fnOf x x (oO st) (mN st) (aR st) .none kV dc pm an cd ct):=⟨PySem.W.mg_of X G a,cq l c k⟩
theorem cH(X:K.In h)(G:h.Ns mainGlobals mg){x:Str}{i:Int}{t:Tok}(a:PySem.W.nsIn K mainGlobals x=some (some (.int i t)):=by k_is):dN mg x i:=⟨t,PySem.W.mg_of X G a⟩
theorem zL(X:K.In h)(G:h.Ns mainGlobals mg){x:Str}(a:PySem.W.nsIn K mainGlobals x=some none:=by k_is):mg x=none:=PySem.W.mg_none_of X G a
theorem tup_of(X:K.In h)(G:h.Ns mainGlobals mg){x:Str}{p:Addr}{o:Obj}{its:Array Value}{n:Nat}{xs:List V}(a:PySem.W.nsIn K mainGlobals x=some (some (.ref p)):=by k_is)(l:K.lookup p=some o:=by k_is)(hc:o.cls=.type "tuple")(hdt:o.data=.seq its n)(hz:its.size≤sizeLine)(hv:cR xs its.toList):
  mg x=some (.ref p)∧∀H:Hp,SqT K H p xs:=⟨PySem.W.mg_of X G a,fun _=>.inr ⟨o,its,n,l,hc,hdt,hz,hv⟩⟩
end
end CSP
open PySem PySem.W PyProof.Rows
open Lean in
local macro_rules
 | `(tactic|refine $e)=>do
  let a:=e.raw
  unless a.isOfKind ``Lean.Parser.Term.app&&a[0].getId==``holds_os do Macro.throwUnsupported
  let q ←`(Lean.Parser.Term.namedArgument|(q:=CSP.dm))
  let l ←`(Lean.Parser.Term.namedArgument|(loose:=CSP.Hl))
  let x ←`(Lean.Parser.Term.namedArgument|(Xt:=fun s=>xlAt CSP.dm [] s&&recOk [] s))
  let p ←`(Lean.Parser.Term.namedArgument|(XP:=XL CSP.dm []))
  let b:TSyntax `term:=⟨a.setArg 1 (mkNullNode (#[q.raw,l.raw,x.raw,p.raw]++a[1].getArgs.extract 4 99))⟩
  `(tactic|refine($b))
set_option maxHeartbeats 0 in
theorem PySem.Challenge.cw_cruiseship_s01_answers_holds : PySem.Challenge.rw_cruiseship_s01_answers.Holds := by
 w_on;have k_k:=CSP.Aq;k_headS;(case hw=>exact⟨[.list [.int 0,.int 1,.int 0,.int 1,.int 1,.int 1,.int 1,.int 1,.int 1]],by decide+kernel,by decide+kernel⟩)
 k_fillS
 refine L2.uz (r:=PySem.Challenge.rw_cruiseship_s01_answers) (k:=10) (CX:=L2.CX0) (ps:=["calls"]) (sp:=CSP.D6) CSP.Aq rfl rfl ⟨rfl,by decide,by decide⟩ (fun w h Y=>PySem.W.kIn_of Y) ?F ?S (fun _ _ _ _ z=>z)
 case F=>
  intro w mg fa h Y KX G hmg;have sA:=CSP.qB KX G (x:="Cabin") (qual:="Cabin.__init__") (st:=CSP.FC);have yF:=CSP.qB KX G (x:="Party") (qual:="Party.__init__") (st:=CSP.FK);have yI:=CSP.qB KX G (x:="Person") (qual:="Person.__init__") (st:=CSP.AV);have iD:=CSP.qB KX G (x:="People") (qual:="People.__init__") (st:=CSP.zU);have ZS:=CSP.qB KX G (x:="Lot") (qual:="Lot.__init__") (st:=CSP.OV);have pR:=CSP.qB KX G (x:="Good") (qual:="Good.__init__") (st:=CSP.IL);have uJ:=CSP.qB KX G (x:="Stores") (qual:="Stores.__init__") (st:=CSP.zT);have iJ:=CSP.qB KX G (x:="Tanks") (qual:="Tanks.__init__") (st:=CSP.EB);have MI:=CSP.qB KX G (x:="Leg") (qual:="Leg.__init__") (st:=CSP.MX);have CF:=CSP.qB KX G (x:="Way") (qual:="Way.__init__") (st:=CSP.QI);have pB:=CSP.qB KX G (x:="Vessel") (qual:="Vessel.__init__") (st:=CSP.BE);have uL:=CSP.qB KX G (x:="Voyage") (qual:="Voyage.__init__") (st:=CSP.BP);have tN:=CSP.dH sA.2.2.1 (x:="deck");have rW:=CSP.dH sA.2.2.1 (x:="place");have jG:=CSP.dH sA.2.2.1 (x:="rank");have kL:=CSP.dH sA.2.2.1 (x:="berths");have tK:=CSP.dH sA.2.2.1 (x:="flat") 
  have jS:=CSP.dH yF.2.2.1 (x:="first") 
  have pS:=CSP.dH yF.2.2.1 (x:="many");have oI:=CSP.dH yF.2.2.1 (x:="cabin");have nE:=CSP.dH yI.2.2.1 (x:="party");have rA:=CSP.dH yI.2.2.1 (x:="child");have jQ:=CSP.dH iD.2.2.1 (x:="most");have eX:=CSP.dH iD.2.2.1 (x:="cabins");have dL:=CSP.dH iD.2.2.1 (x:="parties");have dP:=CSP.dH iD.2.2.1 (x:="persons");have dA:=CSP.dH iD.2.2.1 (x:="standing");have fE:=CSP.dH iD.2.2.1 (x:="minutes");have gA:=CSP.dH iD.2.2.1 (x:="gate");have fM:=CSP.dH iD.2.2.1 (x:="drill");have gZ:=CSP.dH iD.2.2.1 (x:="gone_out");have iE:=CSP.dH iD.2.2.1 (x:="come_in");have fY:=CSP.dH iD.2.2.1 (x:="not_counted");have SS:=CSP.YY iD.2.2.1 (x:="twin") (qual:="People.twin") (st:=CSP.AX);have jT:=CSP.dH ZS.2.2.1 (x:="good_to");have jA:=CSP.dH ZS.2.2.1 (x:="units");have qK:=CSP.dH pR.2.2.1 (x:="per");have rK:=CSP.dH pR.2.2.1 (x:="life");have fA:=CSP.dH pR.2.2.1 (x:="lots");have iT:=CSP.dH pR.2.2.1 (x:="loaded");have kX:=CSP.dH pR.2.2.1 (x:="eaten");have jP:=CSP.dH pR.2.2.1 (x:="spoilt");have iA:=CSP.dH pR.2.2.1 (x:="lacked");have l9:=CSP.YY pR.2.2.1 (x:="twin") (qual:="Good.twin") (st:=CSP.HP);have oP:=CSP.dH uJ.2.2.1 (x:="room");have eA:=CSP.dH uJ.2.2.1 (x:="goods");have SN:=CSP.YY uJ.2.2.1 (x:="twin") (qual:="Stores.twin") (st:=CSP.BM);have pV:=CSP.dH iJ.2.2.1 (x:="uses");have jI:=CSP.dH iJ.2.2.1 (x:="fresh_most");have oE:=CSP.dH iJ.2.2.1 (x:="makes");have kD:=CSP.dH iJ.2.2.1 (x:="grey_most");have jJ:=CSP.dH iJ.2.2.1 (x:="black_most");have fI:=CSP.dH iJ.2.2.1 (x:="fresh");have fX:=CSP.dH iJ.2.2.1 (x:="grey");have fJ:=CSP.dH iJ.2.2.1 (x:="black");have iF:=CSP.dH iJ.2.2.1 (x:="making");have gG:=CSP.dH iJ.2.2.1 (x:="grey_goes");have fS:=CSP.dH iJ.2.2.1 (x:="black_goes");have gO:=CSP.dH iJ.2.2.1 (x:="taken_in");have kU:=CSP.dH iJ.2.2.1 (x:="used");have VE:=CSP.YY iJ.2.2.1 (x:="twin") (qual:="Tanks.twin") (st:=CSP.EM);have lX:=CSP.dH MI.2.2.1 (x:="hours");have oK:=CSP.dH MI.2.2.1 (x:="miles");have rO:=CSP.dH MI.2.2.1 (x:="knots");have kI:=CSP.dH CF.2.2.1 (x:="last_day");have dS:=CSP.dH CF.2.2.1 (x:="hour");have iL:=CSP.dH CF.2.2.1 (x:="later");have fO:=CSP.dH CF.2.2.1 (x:="legs");have F5:=CSP.YY CF.2.2.1 (x:="twin") (qual:="Way.twin") (st:=CSP.NH);have dF:=CSP.dH pB.2.2.1 (x:="way");have cE:=CSP.dH pB.2.2.1 (x:="people");have eV:=CSP.dH pB.2.2.1 (x:="tanks");have eB:=CSP.dH pB.2.2.1 (x:="stores");have TH:=CSP.YY pB.2.2.1 (x:="twin") (qual:="Vessel.twin") (st:=CSP.zX);have eF:=CSP.dH uL.2.2.1 (x:="vessel");have fH:=CSP.dH uL.2.2.1 (x:="past");have fP:=CSP.dH uL.2.2.1 (x:="undone");have PJ:=CSP.zL KX G (x:="any");have nG:=CSP.zL KX G (x:="enumerate");have eE:=CSP.zL KX G (x:="len");have tF:=CSP.zL KX G (x:="list");have bc:=CSP.zL KX G (x:="max");have QC:=CSP.zL KX G (x:="min");have rV:=CSP.zL KX G (x:="range");have GZ:=CSP.zL KX G (x:="sum");have pD:=CSP.cH KX G (x:="ABOARD") (i:=0);have nO:=CSP.cH KX G (x:="ASHORE") (i:=1);have YG:=CSP.cH KX G (x:="GONE") (i:=2);have vM:=CSP.cH KX G (x:="NO_CABIN") (i:= -1);have GD:=CSP.cH KX G (x:="NOT_IN") (i:= -1);have hC:=CSP.cH KX G (x:="NONE_THERE") (i:= -2);have CD:=CSP.cH KX G (x:="NO_DRILL") (i:= -6);have DE:=CSP.cH KX G (x:="TOO_LITTLE") (i:= -12);have jE:=CSP.cH KX G (x:="NOT_NOW") (i:= -16);have rP:=CSP.cH KX G (x:="SO_ALREADY") (i:= -17);have eC:=CSP.cH KX G (x:="NOT_AS_TOLD") (i:= -22);have jW:=CSP.cH KX G (x:="TOO_MANY") (i:= -28);have pX:=CSP.cH KX G (x:="NOT_FITTING") (i:= -33);have uY:=CSP.cH KX G (x:="NO_ROOM") (i:= -62);have RO:=CSP.cH KX G (x:="TOO_LATE") (i:= -75);have kQ:=CSP.cH KX G (x:="HOURS_A_DAY") (i:=24);have DM:=CSP.cH KX G (x:="NO_LEG") (i:= -1);have FD:=CSP.cH KX G (x:="MOST_HOURS") (i:=240);have mZ:=CSP.cH KX G (x:="MOST_HOURS_AHEAD") (i:=500);have xS:=CSP.cH KX G (x:="MOST_PARTIES") (i:=8);have yL:=CSP.cH KX G (x:="MOST_PERSONS") (i:=16);have FR:=CSP.cH KX G (x:="MOST_SHOWN") (i:=100000);have AN:=CSP.cH KX G (x:="MOST_DRILLS") (i:=1000);have sT:=CSP.cH KX G (x:="MINUTES_AN_HOUR") (i:=60);have KJ:=CSP.cH KX G (x:="MOST_LEGS") (i:=10);have EZ:=CSP.cH KX G (x:="MOST_GOODS") (i:=6);have BC:=CSP.cH KX G (x:="MOST_CABINS") (i:=12);have IW:=CSP.cH KX G (x:="MOST_LOTS") (i:=6);have zV:=CSP.cH KX G (x:="MOST_LOADED") (i:=1000000000);have pQ:=CSP.cH KX G (x:="MOST_LOADED_IN_ALL") (i:=2000000000);have wV:=CSP.cH KX G (x:="MOST_TAKEN_IN") (i:=1000000000);have PF:=CSP.cH KX G (x:="CR_START") (i:=0);have OU:=CSP.cH KX G (x:="CR_LEG") (i:=1);have XC:=CSP.cH KX G (x:="CR_GOOD") (i:=2);have SJ:=CSP.cH KX G (x:="CR_CABIN") (i:=3);have NL:=CSP.cH KX G (x:="CR_BOARD") (i:=4);have PV:=CSP.cH KX G (x:="CR_LEAVE") (i:=5);have VR:=CSP.cH KX G (x:="CR_GATE") (i:=6);have YA:=CSP.cH KX G (x:="CR_SCAN") (i:=7);have UZ:=CSP.cH KX G (x:="CR_LOAD") (i:=8);have JS:=CSP.cH KX G (x:="CR_BUNKER") (i:=9);have JA:=CSP.cH KX G (x:="CR_ASHORE") (i:=10);have w8:=CSP.cH KX G (x:="CR_SET") (i:=11);have QP:=CSP.cH KX G (x:="CR_DRILL") (i:=12);have O0:=CSP.cH KX G (x:="CR_IN") (i:=13);have OK:=CSP.cH KX G (x:="CR_HOURS") (i:=14);have QN:=CSP.cH KX G (x:="CR_WHERE") (i:=15);have NN:=CSP.cH KX G (x:="CR_READY") (i:=16);have HR:=CSP.cH KX G (x:="CR_ABOARD") (i:=17);have DN:=CSP.cH KX G (x:="CR_MISSING") (i:=18);have IV:=CSP.cH KX G (x:="CR_SEARCH") (i:=19);have n6:=CSP.cH KX G (x:="CR_WHO") (i:=20);have RR:=CSP.cH KX G (x:="CR_PARTY") (i:=21);have HV:=CSP.cH KX G (x:="CR_CABINS") (i:=22);have MF:=CSP.cH KX G (x:="CR_LEAST") (i:=23);have MK:=CSP.cH KX G (x:="CR_SHORT") (i:=24);have QQ:=CSP.cH KX G (x:="CR_STOCK") (i:=25);have RH:=CSP.cH KX G (x:="CR_WATER") (i:=26);have OE:=CSP.cH KX G (x:="CR_LASTS") (i:=27);have QH:=CSP.cH KX G (x:="CR_AHEAD") (i:=28);have WT:=CSP.cH KX G (x:="CR_BACK") (i:=30);have RV:=CSP.cH KX G (x:="CR_AGAIN") (i:=31);have NC:=CSP.cH KX G (x:="CR_STATE") (i:=32);have FN:=CSP.tup_of KX G (x:="NUMBERS_BEHIND") (xs:=[.int 8,.int 3,.int 2,.int 5,.int 4,.int 1,.int 1,.int 1,.int 2,.int 1,.int 2,.int 3,.int 0,.int 1,.int 1,.int 0,.int 0,.int 0,.int 0,.int 0,.int 1,.int 1,.int 0,.int 1,.int 0,.int 1,.int 0,.int 0,.int 1,.int 0,.int 0,.int 0,.int 0]) (hc:=by rfl) (hdt:=by rfl) (hz:=by decide) (hv:=by exact(.cons ⟨_,rfl⟩ (.cons ⟨_,rfl⟩ (.cons ⟨_,rfl⟩ (.cons ⟨_,rfl⟩ (.cons ⟨_,rfl⟩ (.cons ⟨_,rfl⟩ (.cons ⟨_,rfl⟩ (.cons ⟨_,rfl⟩ (.cons ⟨_,rfl⟩ (.cons ⟨_,rfl⟩ (.cons ⟨_,rfl⟩ (.cons ⟨_,rfl⟩ (.cons ⟨_,rfl⟩ (.cons ⟨_,rfl⟩ (.cons ⟨_,rfl⟩ (.cons ⟨_,rfl⟩ (.cons ⟨_,rfl⟩ (.cons ⟨_,rfl⟩ (.cons ⟨_,rfl⟩ (.cons ⟨_,rfl⟩ (.cons ⟨_,rfl⟩ (.cons ⟨_,rfl⟩ (.cons ⟨_,rfl⟩ (.cons ⟨_,rfl⟩ (.cons ⟨_,rfl⟩ (.cons ⟨_,rfl⟩ (.cons ⟨_,rfl⟩ (.cons ⟨_,rfl⟩ (.cons ⟨_,rfl⟩ (.cons ⟨_,rfl⟩ (.cons ⟨_,rfl⟩ (.cons ⟨_,rfl⟩ (.cons ⟨_,rfl⟩ .nil))))))))))))))))))))))))))))))))));have sP:=CSP.cH KX G (x:="MOST_TAKEN_BACK") (i:=20);have BF:=CSP.cH KX G (x:="MOST_LITRES") (i:=10000000);have KD:=CSP.cH KX G (x:="MOST_ROOM") (i:=1000000000);have T3:=CSP.bX KX G (x:="as_bits") (st:=CSP.WO);have V8:=CSP.bX KX G (x:="outside") (st:=CSP.YH);have LI:=CSP.bX KX G (x:="count_aboard") (st:=CSP.xN);have GM:=CSP.bX KX G (x:="those_who_are") (st:=CSP.wX);have c8:=CSP.bX KX G (x:="may_leave") (st:=CSP.IJ);have BS:=CSP.bX KX G (x:="person_is_there") (st:=CSP.sU);have FS:=CSP.bX KX G (x:="party_is_there") (st:=CSP.tP);have R7:=CSP.bX KX G (x:="members") (st:=CSP.UM);have FO:=CSP.bX KX G (x:="first_of_party") (st:=CSP.tW);have K5:=CSP.bX KX G (x:="is_taken") (st:=CSP.QF);have TN:=CSP.bX KX G (x:="free_cabins") (st:=CSP.BK);have Ch:=CSP.bX KX G (x:="does") (st:=CSP.gu);have UU:=CSP.bX KX G (x:="best_cabin") (st:=CSP.DI);have j8:=CSP.bX KX G (x:="is_nearer") (st:=CSP.JZ);have i6:=CSP.bX KX G (x:="add_party") (st:=CSP.IG);have SZ:=CSP.bX KX G (x:="begin_drill") (st:=CSP.AA);have LB:=CSP.bX KX G (x:="searched_for") (st:=CSP.yC);have K6:=CSP.bX KX G (x:="units_of") (st:=CSP.OF);have LD:=CSP.bX KX G (x:="units_in_all") (st:=CSP.yJ);have HA:=CSP.bX KX G (x:="loaded_in_all") (st:=CSP.wY);have HG:=CSP.bX KX G (x:="good_is_there") (st:=CSP.vQ);have xF:=CSP.bX KX G (x:="good_to_if_loaded") (st:=CSP.qM);have U5:=CSP.bX KX G (x:="has_lot") (st:=CSP.XS);have ZZ:=CSP.bX KX G (x:="add_units") (st:=CSP.KT);have h_eat:=CSP.bX KX G (x:="eat") (st:=CSP.vk);have qw:=CSP.bX KX G (x:="spoil") (st:=CSP.M4);have TW:=CSP.bX KX G (x:="lacks_up_to") (st:=CSP.BA);have W7:=CSP.bX KX G (x:="end_day") (st:=CSP.VS);have YS:=CSP.bX KX G (x:="fresh_room") (st:=CSP.ES);have R5:=CSP.bX KX G (x:="take_in") (st:=CSP.XG);have fc:=CSP.bX KX G (x:="let_go") (st:=CSP.t4);have yx:=CSP.bX KX G (x:="make") (st:=CSP.ie);have S5:=CSP.bX KX G (x:="grey_of") (st:=CSP.VH);have ca:=CSP.bX KX G (x:="usable") (st:=CSP.A0);have h_use:=CSP.bX KX G (x:="use") (st:=CSP.so);have DF:=CSP.bX KX G (x:="wanted_an_hour") (st:=CSP.tY);have UE:=CSP.bX KX G (x:="water_hour") (st:=CSP.GB);have S9:=CSP.bX KX G (x:="way_end") (st:=CSP.WR);have VV:=CSP.bX KX G (x:="voyage_end") (st:=CSP.DQ);have qg:=CSP.bX KX G (x:="today") (st:=CSP.O9);have dn:=CSP.bX KX G (x:="leg_at") (st:=CSP.v0);have G8:=CSP.bX KX G (x:="miles_at") (st:=CSP.QV);have G0:=CSP.bX KX G (x:="knots_at") (st:=CSP.SH);have k7:=CSP.bX KX G (x:="is_at_sea") (st:=CSP.KY);have XZ:=CSP.bX KX G (x:="is_leaving") (st:=CSP.EQ);have ED:=CSP.bX KX G (x:="port_hour_from") (st:=CSP.uH);have GW:=CSP.bX KX G (x:="next_port_day") (st:=CSP.wR);have xB:=CSP.bX KX G (x:="stay_an_hour_more") (st:=CSP.qN);have j5:=CSP.bX KX G (x:="pass_hour") (st:=CSP.HS);have E8:=CSP.bX KX G (x:="cr_hours") (st:=CSP.OH);have xE:=CSP.bX KX G (x:="lacks_before_port") (st:=CSP.qU);have D4:=CSP.bX KX G (x:="cr_least") (st:=CSP.OJ);have D3:=CSP.bX KX G (x:="cr_short") (st:=CSP.NV);have L3:=CSP.bX KX G (x:="cr_lasts") (st:=CSP.NG);have K2:=CSP.bX KX G (x:="cr_ahead") (st:=CSP.QG);have C4:=CSP.bX KX G (x:="cr_board") (st:=CSP.RQ);have K9:=CSP.bX KX G (x:="cr_leave") (st:=CSP.PP);have U8:=CSP.bX KX G (x:="cr_gate") (st:=CSP.WD);have W4:=CSP.bX KX G (x:="cr_scan") (st:=CSP.VF);have SU:=CSP.bX KX G (x:="come_aboard") (st:=CSP.AQ);have e9:=CSP.bX KX G (x:="go_ashore") (st:=CSP.II);have G9:=CSP.bX KX G (x:="cr_drill") (st:=CSP.OW);have rk:=CSP.bX KX G (x:="cr_in") (st:=CSP.Q4);have fv:=CSP.bX KX G (x:="cr_leg") (st:=CSP.w6);have V4:=CSP.bX KX G (x:="cr_good") (st:=CSP.VJ);have J8:=CSP.bX KX G (x:="is_built") (st:=CSP.OS);have B9:=CSP.bX KX G (x:="cr_cabin") (st:=CSP.OM);have SX:=CSP.bX KX G (x:="is_too_much") (st:=CSP.zP);have W5:=CSP.bX KX G (x:="cr_load") (st:=CSP.YK);have f8:=CSP.bX KX G (x:="cr_bunker") (st:=CSP.KP);have i9:=CSP.bX KX G (x:="cr_ashore") (st:=CSP.JU);have ji:=CSP.bX KX G (x:="cr_set") (st:=CSP.p8);have L4:=CSP.bX KX G (x:="cr_where") (st:=CSP.PK);have G4:=CSP.bX KX G (x:="cr_ready") (st:=CSP.OG);have i7:=CSP.bX KX G (x:="cr_aboard") (st:=CSP.HY);have UP:=CSP.bX KX G (x:="cr_missing") (st:=CSP.DG);have b0:=CSP.bX KX G (x:="cr_search") (st:=CSP.JV);have iw:=CSP.bX KX G (x:="cr_who") (st:=CSP.x9);have K4:=CSP.bX KX G (x:="cr_party") (st:=CSP.NP);have l8:=CSP.bX KX G (x:="cr_cabins") (st:=CSP.IA);have G7:=CSP.bX KX G (x:="cr_stock") (st:=CSP.PM);have E5:=CSP.bX KX G (x:="cr_water") (st:=CSP.QT);have U4:=CSP.bX KX G (x:="cr_sums") (st:=CSP.VN);have i8:=CSP.bX KX G (x:="is_change") (st:=CSP.JF);have ib:=CSP.bX KX G (x:="change") (st:=CSP.w9);have zg:=CSP.bX KX G (x:="tell") (st:=CSP.ff);have F0:=CSP.bX KX G (x:="cr_start") (st:=CSP.NU);have UW:=CSP.bX KX G (x:="try_change") (st:=CSP.EY);have m6:=CSP.bX KX G (x:="keep_past") (st:=CSP.JR);have W8:=CSP.bX KX G (x:="cr_back") (st:=CSP.XJ);have B3:=CSP.bX KX G (x:="cr_again") (st:=CSP.QY);have E6:=CSP.bX KX G (x:="cr_state") (st:=CSP.MJ);have SY:=CSP.bX KX G (x:="answer_call") (st:=CSP.AE);have XU:=CSP.bX KX G (x:="answers") (st:=CSP.XI);have T:CSP.Txt _ mg ⟨_,_,_,_,_,_,_,_,_,_,_,_,_,_,_,_,_,_,_,_,_,_,_,_,_,_,_,_,_,_,_,_,_,_,_,_,_,_,_,_,_,_,_,_,_,_,_,_,_,_,_,_,_,_,_,_,_,_,_,_,_,_,_,_,_,_,_,_,_,_,_,_,_,_,_,_,_,_,_,_,_,_,_,_,_,_,_,_,_,_,_,_,_,_,_,_,_,_,_,_,_,_,_,_,_,_,_,_,_,_,_,_,_,_,_,_,_,_,_,_,_,_,_,_,_,_,_,_,_,_,_,_,_,_,_,_,_,_,_,_,_,_,_,_,_,_,_,_,_,_,_,_,_,_,_,_,_,_,_,_,_,_,_,_,_,_,_,_,_,_,_,_,_,_,_,_,_,_,_,_,_,_,_,_,_,_,_,_,_,_,_,_,_,_,_,_,_,_,_,_,_,_,_,_,_,_,_,_,_,_,_,_,_,_,_,_,_,_,_,_,_,_,_,_,_,_,_,_,_,_,_,_,_,_,_,_,_⟩:=⟨sA.1,sA.2.1,sA.2.2.1,tN,rW,jG,kL,tK,yF.1,yF.2.1,yF.2.2.1,jS,pS,oI,yI.1,yI.2.1,yI.2.2.1,nE,rA,iD.1,iD.2.1,iD.2.2.1,jQ,eX,dL,dP,dA,fE,gA,fM,gZ,iE,fY,SS.1,ZS.1,ZS.2.1,ZS.2.2.1,jT,jA,pR.1,pR.2.1,pR.2.2.1,qK,rK,fA,iT,kX,jP,iA,l9.1,uJ.1,uJ.2.1,uJ.2.2.1,oP,eA,SN.1,iJ.1,iJ.2.1,iJ.2.2.1,pV,jI,oE,kD,jJ,fI,fX,fJ,iF,gG,fS,gO,kU,VE.1,MI.1,MI.2.1,MI.2.2.1,lX,oK,rO,CF.1,CF.2.1,CF.2.2.1,kI,dS,iL,fO,F5.1,pB.1,pB.2.1,pB.2.2.1,dF,cE,eV,eB,TH.1,uL.1,uL.2.1,uL.2.2.1,eF,fH,fP,T3.2,T3.1,V8.2,V8.1,sA.2.2.2,yF.2.2.2,yI.2.2.2,iD.2.2.2,SS.2,LI.2,LI.1,GM.2,GM.1,c8.2,c8.1,BS.2,BS.1,FS.2,FS.1,R7.2,R7.1,FO.2,FO.1,K5.2,K5.1,TN.2,TN.1,Ch.2,Ch.1,UU.2,UU.1,j8.2,j8.1,i6.2,i6.1,SZ.2,SZ.1,LB.2,LB.1,ZS.2.2.2,pR.2.2.2,l9.2,uJ.2.2.2,SN.2,K6.2,K6.1,LD.2,LD.1,HA.2,HA.1,HG.2,HG.1,xF.2,xF.1,U5.2,U5.1,ZZ.2,ZZ.1,h_eat.2,h_eat.1,qw.2,qw.1,TW.2,TW.1,W7.2,W7.1,iJ.2.2.2,VE.2,YS.2,YS.1,R5.2,R5.1,fc.2,fc.1,yx.2,yx.1,S5.2,S5.1,ca.2,ca.1,h_use.2,h_use.1,DF.2,DF.1,UE.2,UE.1,MI.2.2.2,CF.2.2.2,F5.2,S9.2,S9.1,VV.2,VV.1,qg.2,qg.1,dn.2,dn.1,G8.2,G8.1,G0.2,G0.1,k7.2,k7.1,XZ.2,XZ.1,ED.2,ED.1,GW.2,GW.1,xB.2,xB.1,j5.2,j5.1,E8.2,E8.1,xE.2,xE.1,D4.2,D4.1,D3.2,D3.1,L3.2,L3.1,K2.2,K2.1,C4.2,C4.1,K9.2,K9.1,U8.2,U8.1,W4.2,W4.1,SU.2,SU.1,e9.2,e9.1,G9.2,G9.1,rk.2,rk.1,fv.2,fv.1,V4.2,V4.1,J8.2,J8.1,B9.2,B9.1,SX.2,SX.1,W5.2,W5.1,f8.2,f8.1,i9.2,i9.1,ji.2,ji.1,L4.2,L4.1,G4.2,G4.1,i7.2,i7.1,UP.2,UP.1,b0.2,b0.1,iw.2,iw.1,K4.2,K4.1,l8.2,l8.1,G7.2,G7.1,E5.2,E5.1,U4.2,U4.1,i8.2,i8.1,ib.2,ib.1,zg.2,zg.1,pB.2.2.2,TH.2,uL.2.2.2,F0.2,F0.1,UW.2,UW.1,m6.2,m6.1,W8.2,W8.1,B3.2,B3.1,E6.2,E6.1,SY.2,SY.1,XU.2,XU.1,PJ,nG,eE,tF,bc,QC,rV,GZ,pD,nO,YG,vM,GD,hC,CD,DE,jE,rP,eC,jW,pX,uY,RO,kQ,DM,FD,mZ,xS,yL,FR,AN,sT,KJ,EZ,BC,IW,zV,pQ,wV,PF,OU,XC,SJ,NL,PV,VR,YA,UZ,JS,JA,w8,QP,O0,OK,QN,NN,HR,DN,IV,n6,RR,HV,MF,MK,QQ,RH,OE,QH,WT,RV,NC,FN.1,FN.2,sP,BF,KD⟩;have e:=hmg.symm.trans XU.1;cases e
  exact⟨_,fun s us hu=>match us,hu with |[_],_=>.of_eq rfl,fun aT _ _=>CSP.uo T⟩
 case S=>
  intro K H xs a hO hwi hask hx
  cases hx with
  |cons h1 h2=>
   cases h2
   cases h1 with
   |lst hs ha=>
    have e:=L2.qm a.1 _ ha;subst e;have q:((Codec.inLen 0 30000 a.1&&a.1.all (Codec.inInt 0 4294967295))&&true)=true:=hwi;rw[Bool.and_eq_true,Bool.and_eq_true] at q;have hnn:∀x∈a.1,0≤x:=fun x hx=>(Codec.inInt_iff.mp (List.all_eq_true.mp q.1.2 x hx)).1;obtain⟨ok1,ok2⟩:=CSP.sk hnn (show PyKm443.answers_asked a.1=true from hask);refine⟨_,a.1,rfl,hs,(Codec.inNat_iff.mp q.1.1).2,hnn,ok1,fun H' p hp=>?_⟩;rw[←ok2] at hp;exact .lst (L2.SqL.of hp) (L2.rg _)
