import Derived.Test.YtbbopknnoamkbaaGreatDoorS2
import Derived.Test.YtbbopknnoamkbaaGreatDoorE1
import Derived.Test.YtbbopknnoamkbaaGreatDoorDMe
import Derived.Test.YtbbopknnoamkbaaGreatDoorDMg
namespace Go.Proofs.YtbbopknnoamkbaaGreatDoor
open Go.RowKit
set_option linter.unusedVariables false
theorem cmake(s:ByteArray)(il:List UInt8)(a ttl:Int)(w:World)(hg:9≤w.heap.size)(hG:GV w)(htab:Lib.TabBelow Tryz.prog w.heap.size w "internal/strconv.uint64pow10" .u64 Lib.pow10Tab)(hil:il.length≤1048576)(ha0: -9223372036854775808≤a)(ha1:a≤9223372036854775807)(ht0: -9223372036854775808≤ttl)(ht1:ttl≤9223372036854775807):Calls Tryz.prog 33 #[.string s,.string ⟨il.toArray⟩,.int .i64 a,.int .i64 ttl] w fun r w'=>r=.returned (.tuple #[.string ⟨(mkR s.data.toList il a ttl).1.toArray⟩,.int .i64 (mkR s.data.toList il a ttl).2.1,.int .i64 (mkR s.data.toList il a ttl).2.2])∧Below w.heap.size w w':=by
 unfold mkR;cases hR:readL s.data.toList with
 | error q=>
   obtain⟨e,p⟩:=q;exact cmake_bad s il a ttl w hg hG e p ((cpar_err s w hg hG e p hR).mono fun r w' h=>⟨h.1,h.2.1,by have:=h.2.2;omega⟩)
 | ok t=>
   obtain⟨n0,r0,hf,_⟩:=flat_head 0 [] t;have hn0:(flat 0 [] t)[0]?=some n0:=by rw[hf];rfl
   dsimp only;unfold mkT;rw[ndA_of hn0];by_cases hk:n0.kind=5
   ·rw[if_pos hk]
    by_cases hE:(refA (flat 0 [] t) n0.kids).1=0
    ·rw[if_pos hE]
     by_cases hA:memK (flat 0 [] t) audS n0.kids<0
     ·rw[if_pos hA];exact cmake_deny s il a ttl w hg hG t hR n0 hn0 hk hE hil ha0 ha1 ht0 ht1 7 (fun _=>rfl) (fun h=>absurd hA h) (fun h=>absurd hA h)
     ·rw[if_neg hA]
      cases hU:Lib.validD il with
      | false=>rw[if_pos rfl];exact cmake_deny s il a ttl w hg hG t hR n0 hn0 hk hE hil ha0 ha1 ht0 ht1 2 (fun h=>absurd h hA) (fun _ _=>rfl) (fun _ h=>by rw[hU]at h;cases h)
      | true=>
        rw[if_neg (by decide)];by_cases hr:a<0∨ttl<1∨9007199254740991-ttl<a
        ·rw[if_pos hr];exact cmake_deny s il a ttl w hg hG t hR n0 hn0 hk hE hil ha0 ha1 ht0 ht1 3 (fun h=>absurd h hA) (fun _ h=>by rw[hU]at h;cases h) (fun _ _=>⟨rfl,hr⟩)
        ·rw[if_neg hr]
         have e0:=ndA_of hn0;have hk':(ndA (flat 0 [] t) 0).kind=5:=by rw[e0];exact hk
         have hE':(refA (flat 0 [] t) (ndA (flat 0 [] t) 0).kids).1=0:=by rw[e0];exact hE
         have hA':¬memK (flat 0 [] t) audS (ndA (flat 0 [] t) 0).kids<0:=by rw[e0];exact hA
         obtain⟨pre,hpre⟩:∃pre,fmT t=pre++[125]:=by
          obtain⟨ms,i,rfl,_⟩:=make_obj hk' hE' hA';exact fm_last ms i
         exact cmake_ok s il a ttl w hg hG t hR n0 hn0 hk hE hA hil hU hr htab pre hpre _ (make_seal hR hk' hE' hA' il hU a ttl hr pre hpre)
    ·rw[if_neg hE];exact cmake_ref s il a ttl w hg hG t hR n0 hn0 hk hE
   ·rw[if_neg hk]
    exact cmake_bad s il a ttl w hg hG 6 n0.at' ((cpar_kind s w hg hG t hR n0 hn0 hk).mono fun r w' h=>⟨h.1,h.2,by decide⟩)
theorem rmake(s:ByteArray)(il:List UInt8)(a ttl:Int)(w:World)(hs:s.size≤140737488351232)(hil:il.length≤1048576)(ha0: -9223372036854775808≤a)(ha1:a≤9223372036854775807)(ht0: -9223372036854775808≤ttl)(ht1:ttl≤9223372036854775807):Calls Tryz.prog 34 #[.string s,.string ⟨il.toArray⟩,.int .i64 a,.int .i64 ttl] w fun r w'=>r=.returned (.tuple #[.string ⟨(mkR s.data.toList il a ttl).1.toArray⟩,.int .i64 (mkR s.data.toList il a ttl).2.1,.int .i64 (mkR s.data.toList il a ttl).2.2])∧Below w.heap.size w w':=by
 unfold mkR;cases hR:readL s.data.toList with
 | error q=>
   obtain⟨e,p⟩:=q;exact rmake_err s il a ttl w hs e p hR
 | ok t=>
   obtain⟨n0,r0,hf,_⟩:=flat_head 0 [] t;have hn0:(flat 0 [] t)[0]?=some n0:=by rw[hf];rfl
   dsimp only;unfold mkT;rw[ndA_of hn0];by_cases hk:n0.kind=5
   ·rw[if_pos hk]
    by_cases hE:(refA (flat 0 [] t) n0.kids).1=0
    ·rw[if_pos hE]
     by_cases hA:memK (flat 0 [] t) audS n0.kids<0
     ·rw[if_pos hA];exact rmake_deny s il a ttl w hs t hR n0 hn0 hk hE hil ha0 ha1 ht0 ht1 7 (fun _=>rfl) (fun h=>absurd hA h) (fun h=>absurd hA h)
     ·rw[if_neg hA]
      cases hU:Lib.validD il with
      | false=>rw[if_pos rfl];exact rmake_deny s il a ttl w hs t hR n0 hn0 hk hE hil ha0 ha1 ht0 ht1 2 (fun h=>absurd h hA) (fun _ _=>rfl) (fun _ h=>by rw[hU]at h;cases h)
      | true=>
        rw[if_neg (by decide)];by_cases hr:a<0∨ttl<1∨9007199254740991-ttl<a
        ·rw[if_pos hr];exact rmake_deny s il a ttl w hs t hR n0 hn0 hk hE hil ha0 ha1 ht0 ht1 3 (fun h=>absurd h hA) (fun _ h=>by rw[hU]at h;cases h) (fun _ _=>⟨rfl,hr⟩)
        ·rw[if_neg hr]
         have e0:=ndA_of hn0;obtain⟨ms,i,rfl,_⟩:=make_obj (t:=t) (by rw[e0];exact hk) (by rw[e0];exact hE) (by rw[e0];exact hA);have en:n0=⟨5,[],[],0,startsM 1 ms,i⟩:=by rw[flat]at hn0;simpa using hn0.symm
         rw[en]at hE hA;unfold mkF;dsimp only;by_cases hl:(fmT (.obj (ms++four il a (a+ttl)) 0)).length≤65536
         ·rw[if_pos hl]
          exact rmake_ok s il a ttl w hs ms i hR hE hA hil hU hr _ rfl _ 0 (fun _=>⟨rfl,rfl⟩) (fun h=>absurd hl h)
         ·rw[if_neg hl]
          exact rmake_ok s il a ttl w hs ms i hR hE hA hil hU hr _ rfl [] 1 (fun h=>absurd h hl) (fun _=>⟨rfl,rfl⟩)
    ·rw[if_neg hE];exact rmake_ref s il a ttl w hs t hR n0 hn0 hk hE
   ·rw[if_neg hk];exact rmake_kind s il a ttl w hs t hR n0 hn0 hk
end Go.Proofs.YtbbopknnoamkbaaGreatDoor
