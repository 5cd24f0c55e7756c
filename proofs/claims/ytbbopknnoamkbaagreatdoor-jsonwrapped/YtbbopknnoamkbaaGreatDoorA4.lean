import Derived.Test.YtbbopknnoamkbaaGreatDoorG0
import Derived.Test.YtbbopknnoamkbaaGreatDoorGF
import Derived.Test.YtbbopknnoamkbaaGreatDoorX5
import Derived.Test.YtbbopknnoamkbaaGreatDoorNR3
set_option maxHeartbeats 4000000
set_option maxRecDepth 100000
namespace Go.Proofs.YtbbopknnoamkbaaGreatDoor
set_option linter.unusedVariables false
theorem readL_parts{s:List UInt8}{ts:JT}(h:readL s=.ok ts):∃n,valL 32 (s.drop (nb s)) (nb s)=.ok (ts,n)∧nb s+n≤s.length∧nb s<s.length∧Blk (s.drop (nb s+n)):=by
 unfold readL at h;split at h
 ·cases h
 ·dsimp only at h
  cases hv:valL 32 (s.drop (nb s)) (nb s)with
  | error e=>rw[hv]at h;simp at h
  | ok q=>
    obtain⟨t,n⟩:=q;rw[hv]at h;dsimp only at h;have hn:=(valL_rok _ _ _ _ _ hv).1;rw[List.length_drop]at hn;have hb:=nb_le s;have hlt:nb s<s.length:=by
     by_cases hlt:nb s<s.length
     ·exact hlt
     ·rw[List.drop_of_length_le (by omega),valL_nil]at hv;cases hv
    split at h
    ·cases h
    ·rename_i hend
     injection h with h;subst h;refine⟨n,rfl,by omega,hlt,?_⟩;have hle:=nb_le (s.drop (nb s+n));rw[List.length_drop]at hle;have hz:nb (s.drop (nb s+n))=(s.drop (nb s+n)).length:=by rw[List.length_drop];omega
     have:∀l:List UInt8,nb l=l.length→Blk l:=by
      intro l;induction l with
      | nil=>intro _ c hc;simp at hc
      | cons c r ih=>
        intro hl;rw[nb]at hl;split at hl
        ·rename_i hc
         intro x hxm;rcases List.mem_cons.1 hxm with rfl|hxm
         ·exact hc
         ·exact ih (by simpa using hl) x hxm
        ·simp at hl
     exact this _ hz
theorem val_in{s:List UInt8}{ts:JT}(h:readL s=.ok ts)(x:List UInt8)(hx:Beh x)(j:Nat)(t1:JT)(n1:Nat)(h1:valL 31 (s.drop (nb s)++x) j=.ok (t1,n1)):nb s+n1≤s.length∧nb s<s.length∧Blk (s.drop (nb s+n1))∧fmT t1=fmT ts:=by
 obtain⟨n,hv,hn,hlt,hB⟩:=readL_parts h;have e1:=(valL_ext x hx 32 _ _ _ _ hv).2;have e2:=valL_mono 31 _ _ _ _ h1;have e3:=valL_mv (nb s) 32 (s.drop (nb s)++x) 0;have e4:=valL_mv j 32 (s.drop (nb s)++x) 0;rw[Nat.zero_add]at e3 e4;have hfm:∀(k:Nat) (t:JT),fmT (mvT k t)=fmT t:=fun k t=>by
  have a:=prF_mv k t;rw[prF_form,prF_form]at a;exact(Prod.mk.inj a).1
 cases h0:valL 32 (s.drop (nb s)++x) 0 with
 | error e=>
   obtain⟨e,a⟩:=e;rw[h0,e1]at e3;simp[mv1]at e3
 | ok q=>
   obtain⟨t0,n0⟩:=q;rw[h0,e1]at e3;rw[h0,e2]at e4;simp only[mv1,Except.ok.injEq,Prod.mk.injEq]at e3 e4;obtain⟨a1,a2⟩:=e3;obtain⟨b1,b2⟩:=e4;subst a2;subst b2;refine⟨hn,hlt,hB,?_⟩;rw[a1,b1,hfm,hfm]
def both(s t:List UInt8):List UInt8:=91::32::(s++9::44::13::10::(t++[93]))
theorem nb_drop_blk(s x:List UInt8)(k:Nat)(hk:k≤s.length)(hB:Blk (s.drop k))(c:UInt8)(r:List UInt8)(hx:x=c::r)(hc:isB c=false):nb ((s++x).drop k)=s.length-k∧(s++x).drop s.length=c::r:=by
 refine⟨?_,by rw[List.drop_left' rfl,hx]⟩;rw[drop_ext s x k hk,nb_blk _ _ hB,List.length_drop,hx,nb,if_neg (by simp[hc])];rfl
theorem readL_both{s t:List UInt8}{ts tt x:JT}(hs:readL s=.ok ts)(ht:readL t=.ok tt)(hw:readL (both s t)=.ok x):∃t1 t2,x=.arr [t1,t2] 0∧fmT t1=fmT ts∧fmT t2=fmT tt:=by
 obtain⟨n0,hv,_,_,_⟩:=readL_parts hw;have hnb0:nb (both s t)=0:=by unfold both;rw[nb,if_neg (by decide)]
 rw[hnb0,List.drop_zero]at hv;unfold both at hv;rw[valL_cons]at hv;rw[if_neg (by decide),if_neg (by decide),if_neg (by decide),if_pos (by decide)]at hv;dsimp only at hv;rw[if_pos rfl]at hv;unfold arrL at hv;dsimp only at hv;obtain⟨_,_,_,hlt,_⟩:=readL_parts hs;obtain⟨_,_,_,hlt2,_⟩:=readL_parts ht;generalize hY:(9::44::13::10::(t++[93]):List UInt8)=Y at hv;have hBY:Beh Y:=fun c r e=>by rw[←hY]at e;injection e with e _;subst e;decide
 have hnbs:nb (s++Y)=nb s:=nb_ext s Y _ _ (List.drop_eq_getElem_cons hlt);have hd1:(91::32::(s++Y):List UInt8).drop 1=32::(s++Y):=rfl;have hn1:nb (32::(s++Y))=nb s+1:=by rw[nb,if_pos (by decide),hnbs]
 rw[hd1,hn1]at hv;have hd2:(91::32::(s++Y):List UInt8).drop (1+(nb s+1))=s.drop (nb s)++Y:=by
  rw[show 1+(nb s+1)=nb s+1+1 by omega,List.drop_succ_cons,List.drop_succ_cons,drop_ext s Y _ (by omega)]
 rw[hd2]at hv;split at hv
 ·rename_i h93
  exfalso;obtain⟨n,hvs,_⟩:=readL_parts hs;rw[List.drop_eq_getElem_cons hlt]at h93 hvs;simp only[List.cons_append,List.head?_cons,Option.some.injEq]at h93;rw[h93,valL_cons]at hvs;rw[if_neg (by decide),if_neg (by decide),if_neg (by decide),if_neg (by decide)]at hvs;cases hvs
 ·cases hr:arrF (valL 31) ((91::32::(s++Y):List UInt8).length+1) (s.drop (nb s)++Y) (0+(1+(nb s+1)))with
  | error e=>rw[hr]at hv;simp at hv
  | ok z=>
    obtain⟨L,k⟩:=z;rw[hr]at hv;simp only[Except.ok.injEq,Prod.mk.injEq]at hv;obtain⟨hv,_⟩:=hv;subst hv;generalize (91::32::(s++Y):List UInt8).length=f at hr;rw[arrF]at hr;dsimp only at hr;have hc0:nb (s.drop (nb s)++Y)=0:=by
     have hdd:(s.drop (nb s)).drop (nb (s.drop (nb s)))=s.drop (nb s+nb (s.drop (nb s))):=by rw[List.drop_drop]
     have hzz:nb (s.drop (nb s))=0:=by
      have:∀l:List UInt8,nb (l.drop (nb l))=0:=by
       intro l;induction l with
       | nil=>rfl
       | cons c r ih=>
         rw[nb];split
         ·rw[List.drop_succ_cons];exact ih
         ·rename_i hcb;rw[List.drop_zero,nb,if_neg hcb]
      exact this s
     have:=nb_ext (s.drop (nb s)) Y s[nb s] (s.drop (nb s+1)) (by rw[hzz,List.drop_zero];exact List.drop_eq_getElem_cons hlt);rw[this,hzz]
    rw[hc0,List.drop_zero,Nat.add_zero,Nat.zero_add]at hr;cases hv1:valL 31 (s.drop (nb s)++Y) (1+(nb s+1))with
    | error e=>rw[hv1]at hr;simp at hr
    | ok q=>
      obtain⟨t1,n1⟩:=q;rw[hv1]at hr;dsimp only at hr;obtain⟨g1,g2,g3,g4⟩:=val_in hs Y hBY _ t1 n1 hv1;have hl1:s.drop (nb s)++Y=(s.drop (nb s)++[9])++(44::13::10::(t++[93])):=by rw[←hY];simp
      have hSl:(s.drop (nb s)++[9]).length=s.length-nb s+1:=by rw[List.length_append,List.length_drop];rfl
      have hB1:Blk ((s.drop (nb s)++[9]).drop n1):=by
       rw[drop_ext _ _ _ (by rw[List.length_drop];omega),List.drop_drop];intro c hc;rcases List.mem_append.1 hc with hc|hc
       ·exact g3 c hc
       ·simp at hc;subst hc;decide
      obtain⟨p1,p2⟩:=nb_drop_blk (s.drop (nb s)++[9]) (44::13::10::(t++[93])) n1 (by rw[hSl];omega) hB1 44 _ rfl (by decide);rw[←hl1]at p1 p2;have hb9:n1+((s.drop (nb s)++[9]).length-n1)=(s.drop (nb s)++[9]).length:=by rw[hSl];omega
      rw[show 0+n1=n1 by omega,p1,hb9,p2]at hr;dsimp only at hr;rw[if_pos rfl]at hr;have p3:(s.drop (nb s)++Y).drop ((s.drop (nb s)++[9]).length+1)=13::10::(t++[93]):=by rw[←List.drop_drop,p2];rfl
      rw[p3]at hr;generalize (1+(nb s+1)+((s.drop (nb s)++[9]).length+1))=I at hr;generalize (s.drop (nb s)++[9]).length=q at hr;cases hr2:arrF (valL 31) f (13::10::(t++[93])) I with
      | error e=>rw[hr2]at hr;simp at hr
      | ok z=>
        obtain⟨L2,k2⟩:=z;rw[hr2]at hr;simp only[Except.ok.injEq,Prod.mk.injEq]at hr;obtain⟨hr,_⟩:=hr;subst hr;cases f with
        | zero=>simp[arrF]at hr2
        | succ f=>
          rw[arrF]at hr2;dsimp only at hr2;have hnt:nb (t++[93])=nb t:=nb_ext t [93] _ _ (List.drop_eq_getElem_cons hlt2);have hn2:nb (13::10::(t++[93]))=nb t+1+1:=by rw[nb,if_pos (by decide),nb,if_pos (by decide),hnt]
          have hd3:(13::10::(t++[93]):List UInt8).drop (nb t+1+1)=t.drop (nb t)++[93]:=by rw[List.drop_succ_cons,List.drop_succ_cons,drop_ext t _ _ (by omega)]
          rw[hn2,hd3]at hr2;have hB93:Beh [93]:=fun c r e=>by injection e with e _;subst e;decide
          cases hv2:valL 31 (t.drop (nb t)++[93]) (I+(nb t+1+1))with
          | error e=>rw[hv2]at hr2;simp at hr2
          | ok q2=>
            obtain⟨t2,n2⟩:=q2;rw[hv2]at hr2;dsimp only at hr2;obtain⟨k1,k2',k3,k4⟩:=val_in ht [93] hB93 _ t2 n2 hv2;have hl2:(13::10::(t++[93]):List UInt8)=(13::10::t)++[93]:=rfl;have hB2:Blk ((13::10::t:List UInt8).drop (nb t+1+1+n2)):=by
             rw[show nb t+1+1+n2=nb t+n2+1+1 by omega,List.drop_succ_cons,List.drop_succ_cons];exact k3
            obtain⟨r1,r2⟩:=nb_drop_blk (13::10::t) [93] (nb t+1+1+n2) (by simp;omega) hB2 93 [] rfl (by decide);rw[←hl2]at r1 r2;have hlen2:(13::10::t:List UInt8).length=t.length+2:=rfl;have hb8:nb t+1+1+n2+((13::10::t:List UInt8).length-(nb t+1+1+n2))=(13::10::t:List UInt8).length:=by rw[hlen2];omega
            rw[r1,hb8,r2]at hr2;dsimp only at hr2;rw[if_neg (by decide),if_pos rfl]at hr2;simp only[Except.ok.injEq,Prod.mk.injEq]at hr2;obtain⟨hr2,_⟩:=hr2;subst hr2;exact⟨t1,t2,rfl,g4,k4⟩
theorem prF_both{s t:List UInt8}{ts tt x:JT}(hs:readL s=.ok ts)(ht:readL t=.ok tt)(hw:readL (both s t)=.ok x):prF (.ok x)=(91::((prF (.ok ts)).1++44::(prF (.ok tt)).1)++[93],0,0):=by
 obtain⟨t1,t2,rfl,e1,e2⟩:=readL_both hs ht hw;rw[prF_form,prF_form,prF_form];simp only[fmT,fmL,joinC];rw[e1,e2]
open Go.RowKit
def erR(R:Except (Nat×Nat) JT):Nat:=match R with| .ok _=>0| .error (e,_)=>e
def plR(R:Except (Nat×Nat) JT):Nat:=match R with| .ok _=>0| .error (_,a)=>a
theorem prF_er(R:Except (Nat×Nat) JT):(prF R).2.1=erR R∧(prF R).2.2=plR R:=by
 cases R with
 | ok t=>exact⟨rfl,rfl⟩
 | error e=>obtain⟨e,a⟩:=e;exact⟨rfl,rfl⟩
theorem rread_long(s:ByteArray)(w:World)(hl:65536<s.size)(hs:s.size≤4611686018427387904):Calls Tryz.prog 20 #[.string s] w fun r w'=>r=.returned (.tuple #[.slice none 0 0,.int .i64 1,.int .i64 0])∧Below w.heap.size w w':=by
 have i1:(65536:Int)<(s.size:Int):=by omega
 go_enter Tryz.func20,Tryz.ntmps20;go_wp2;go_ret3
 exact⟨rfl,Below.refl _ _⟩
theorem rread_num(s:ByteArray)(w:World)(hs:s.size≤4611686018427387904):Calls Tryz.prog 20 #[.string s] w fun r w'=>((∃v,r=.returned (.tuple #[v,.int .i64 (erR (readL s.data.toList):Int),.int .i64 (plR (readL s.data.toList):Int)]))∧(erR (readL s.data.toList)=0→∃t,readL s.data.toList=.ok t))∧Below w.heap.size w w':=by
 by_cases hl:65536<s.size
 ·have e:readL s.data.toList=.error (1,0):=by unfold readL;rw[if_pos (by simpa using hl)]
  rw[e];refine(rread_long s w hl hs).mono ?_;rintro r w' ⟨rfl,hb⟩;exact⟨⟨⟨_,rfl⟩,fun h=>by simp[erR]at h⟩,hb⟩
 ·refine(rread s w (by omega)).mono ?_
  generalize readL s.data.toList=R;rintro r w' ⟨h,hb⟩;refine⟨?_,hb⟩;cases R with
  | ok t=>obtain⟨v,e,_⟩:=h;exact⟨⟨v,e⟩,fun _=>⟨t,rfl⟩⟩
  | error e=>obtain⟨e,a⟩:=e;exact⟨⟨_,h.1⟩,fun h0=>by have:=h.2;simp[erR]at h0;omega⟩
theorem print_num(s:ByteArray)(w:World)(hg:9≤w.heap.size)(hG:GV w)(htab:Lib.TabBelow Tryz.prog w.heap.size w "internal/strconv.uint64pow10" .u64 Lib.pow10Tab):Calls Tryz.prog 16 #[.string s] w fun r w'=>r=.returned (.tuple #[.string ⟨(prF (readL s.data.toList)).1.toArray⟩,.int .i64 (erR (readL s.data.toList):Int),.int .i64 (plR (readL s.data.toList):Int)])∧Below w.heap.size w w':=by
 have:=cprint s w hg hG htab;rw[(prF_er _).1,(prF_er _).2]at this;exact this
def txtB(s t:ByteArray):ByteArray:=(⟨#[91,32]⟩:ByteArray)++s++⟨#[9,44,13,10]⟩++t++⟨#[93]⟩
theorem txtB_list(s t:ByteArray):(txtB s t).data.toList=both s.data.toList t.data.toList:=by unfold txtB both;simp
def outB(a b:ByteArray):ByteArray:=(⟨#[91]⟩:ByteArray)++a++⟨#[44]⟩++b++⟨#[93]⟩
theorem outB_list(a b:List UInt8):(⟨(91::(a++44::b)++[93]).toArray⟩:ByteArray)=outB ⟨a.toArray⟩ ⟨b.toArray⟩:=by
 unfold outB;apply ByteArray.ext;simp
theorem lwrapped(s t:ByteArray)(w:World)(hg:9≤w.heap.size)(hG:GV w)(htab:Lib.TabBelow Tryz.prog w.heap.size w "internal/strconv.uint64pow10" .u64 Lib.pow10Tab)(hs:s.size≤140737488351232)(ht:t.size≤140737488351232):Calls Tryz.prog 5 #[.string s,.string t] w fun r w'=>r=.returned (.bool true)∧Below w.heap.size w w':=by
 have hnm:=fun e w'=>lnumN e w'
 have hp:∀(x:ByteArray) (w1:World),Below w.heap.size w w1→Calls Tryz.prog 16 #[.string x] w1 fun r w'=>r=.returned (.tuple #[.string ⟨(prF (readL x.data.toList)).1.toArray⟩,.int .i64 (erR (readL x.data.toList):Int),.int .i64 (plR (readL x.data.toList):Int)])∧Below w1.heap.size w1 w':=fun x w1 b1=>by
  have hz:=b1.size;exact print_num x w1 (by omega) (hG.kept fun k hk=>b1.block k (by omega)) (fun w' hb=>htab w' (b1.trans (hb.mono hz)))
 have hp1:=hp s w (Below.refl _ _);have hp2:=fun w1 b1=>hp t w1 b1
 have hp3:=fun w1 b1=>hp (txtB s t) w1 b1
 have hr1:=fun w1=>rread_num s w1 (by omega)
 have hr2:=fun w1=>rread_num t w1 (by omega)
 have hr3:=fun w1=>rread_num (txtB s t) w1 (by unfold txtB;simp only[ByteArray.size_append];show 2+s.size+4+t.size+1≤_;omega)
 have hfin:(∃x,readL s.data.toList=.ok x)→(∃x,readL t.data.toList=.ok x)→(∃x,readL (txtB s t).data.toList=.ok x)→(⟨(prF (readL (txtB s t).data.toList)).1.toArray⟩:ByteArray)=outB ⟨(prF (readL s.data.toList)).1.toArray⟩ ⟨(prF (readL t.data.toList)).1.toArray⟩:=by
  rintro⟨x1,h1⟩ ⟨x2,h2⟩ ⟨x3,h3⟩;have h3':=h3;rw[txtB_list]at h3';rw[h1,h2,h3,prF_both h1 h2 h3'];exact outB_list _ _
 have hX:txtB s t=(⟨#[91,32]⟩:ByteArray)++s++⟨#[9,44,13,10]⟩++t++⟨#[93]⟩:=rfl;have hO:∀a b,outB a b=(⟨#[91]⟩:ByteArray)++a++⟨#[44]⟩++b++⟨#[93]⟩:=fun a b=>rfl
 have hsz1:(⟨(prF (readL s.data.toList)).1.toArray⟩:ByteArray).size≤1000000000:=by
  cases hR:readL s.data.toList with
  | ok x=>have:=(read_fit hR).2.one (flat 0 [] x).length 0;show(prF (.ok x)).1.toArray.size≤_;simpa [prF]using this
  | error e=>obtain⟨e,a⟩:=e;show(prF (.error (e,a))).1.toArray.size≤_;simp[prF]
 have hsz2:(⟨(prF (readL t.data.toList)).1.toArray⟩:ByteArray).size≤1000000000:=by
  cases hR:readL t.data.toList with
  | ok x=>have:=(read_fit hR).2.one (flat 0 [] x).length 0;show(prF (.ok x)).1.toArray.size≤_;simpa [prF]using this
  | error e=>obtain⟨e,a⟩:=e;show(prF (.error (e,a))).1.toArray.size≤_;simp[prF]
 generalize (⟨(prF (readL s.data.toList)).1.toArray⟩:ByteArray)=SA at hp1 hfin hsz1;generalize (⟨(prF (readL t.data.toList)).1.toArray⟩:ByteArray)=SB at hp2 hfin hsz2;generalize (⟨(prF (readL (txtB s t).data.toList)).1.toArray⟩:ByteArray)=SC at hp3 hfin;generalize readL s.data.toList=R1 at hp1 hr1 hfin;generalize readL t.data.toList=R2 at hp2 hr2 hfin;generalize readL (txtB s t).data.toList=R3 at hp3 hr3 hfin;rw[hX]at hp3 hr3;simp only[hO]at hfin;have HP2:=Lib.hid hp2;have HP3:=Lib.hid hp3;have HR1:=Lib.hid hr1;have HR2:=Lib.hid hr2;have HR3:=Lib.hid hr3;have HF:=Lib.hid hfin;clear hp hp2 hp3 hr1 hr2 hr3 hfin hX hO hG htab;go_enter Tryz.func5,Tryz.ntmps5;go_wp2_with fail
 refine hp1.mono ?_;rintro r w1 ⟨rfl,c1⟩;have B1:=Lib.hid c1;clear c1 hp1;go_wp2_with fail
 refine(HP2.out w1 B1.out).mono ?_;rintro r w2 ⟨rfl,c2⟩;have B2:=Lib.hid (B1.out.trans (c2.mono B1.out.size));clear c2;go_wp2_with fail
 refine(HR1.out w2).mono ?_;rintro r w3 ⟨⟨⟨v1,rfl⟩,o1⟩,c3⟩;have B3:=Lib.hid (B2.out.trans (c3.mono B2.out.size));have O1:=Lib.hid o1;clear c3 o1;go_wp2_with fail
 refine(HR2.out w3).mono ?_;rintro r w4 ⟨⟨⟨v2,rfl⟩,o2⟩,c4⟩;have B4:=Lib.hid (B3.out.trans (c4.mono B3.out.size));have O2:=Lib.hid o2;clear c4 o2;generalize hE1:erR R1=E1 at *;generalize hE2:erR R2=E2 at *;generalize plR R1=P1 at *;generalize plR R2=P2 at *;clear HR1 HR2 HP2;go_wp2_with (go_at_call 18;refine(hnm _ _).mono ?_;rintro e w' ⟨rfl,hw⟩;have hw2:=hw.symm;subst hw2)
 refine(HR3.out w4).mono ?_;rintro r w5 ⟨⟨⟨v3,rfl⟩,o3⟩,c5⟩;have B5:=Lib.hid (B4.out.trans (c5.mono B4.out.size));have O3:=Lib.hid o3;clear c5 o3 HR3;have hq:=HP3.out w5 B5.out;generalize hE3:erR R3=E3 at *;generalize plR R3=P3 at *;clear HP3;by_cases z1:E1=0
 ·by_cases z2:E2=0
  ·by_cases z3:E3=0
   ·have hf:=HF.out (O1.out z1) (O2.out z2) (O3.out z3)
    subst hf;subst z1;subst z2;subst z3;clear O1 O2 O3 HF;go_wp2_with fail
    refine hq.mono ?_;rintro r w6 ⟨rfl,c6⟩;have B6:=Lib.hid (B5.out.trans (c6.mono B5.out.size));clear c6 hq;go_wp2_with (go_at_call 18;refine(hnm _ _).mono ?_;rintro e w' ⟨rfl,rfl⟩)
    go_ret;exact⟨rfl,B6.out⟩
   ·have k3:((E3:Int) != 0)=true:=by simp;omega
    subst z1;subst z2;clear O1 O2 O3 HF hq;go_wp2;go_ret;exact⟨rfl,B5.out⟩
  ·have k3:((E2:Int) != 0)=true:=by simp;omega
   subst z1;clear O1 O2 O3 HF hq;go_wp2;go_ret;exact⟨rfl,B5.out⟩
 ·have k3:((E1:Int) != 0)=true:=by simp;omega
  clear O1 O2 O3 HF hq;go_wp2;go_ret;exact⟨rfl,B5.out⟩
end Go.Proofs.YtbbopknnoamkbaaGreatDoor
