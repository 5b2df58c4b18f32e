/- Nothing more of the shelf. -/
import Derived.Test.YtpalknbmejachabGreatDoorShelf
